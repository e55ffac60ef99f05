import PyProof.Rows.All
import Wide.All
import OpenK.AllK
import Wide.FinOn
import PyProof.EqAt
import PyProof.EqKinds
import PyProof.TupleCall
import HandS.Base
import HandS.Call
import HandS.List
import HandS.Comp
import HandS.Iter
import HandS.Ends
import HandS.Exc
import HandS.Words
import PyProof.Draws
import HandS.Zip0
import KE.KFromBytes
import HandS.ExcInit
import HandS.OwnEq
import HandS.IsInst
import HandS.ForMost
import HandS.ForExc
import HandS.TryMany
import HandS.ExcField
import HandS.TupAny
import HandS.TupLe
import HandS.TupSets
import HandS.Zip
import HandS.Style
import HandS.Conv
import HandS.SortInts
import KE.KDictSum
import KE.KDictWalk
import HandS.GenList
import KE.KDictZip
import KE.GoesEnumKw
import PyProof.Rows.CallKwBuiltin
import HandS.Dict
import HandS.More
import HandS.Codes
import HandS.Walk
import HandS.Text
import HandS.RaiseMore
import HandS.TupMul
import HandS.ExcIs
import PyProof.StrOps2
import HandS.ExcOwn
import HandS.HotCalls
import PySem.Challenge.RW_moststream_k31_links_rows_and_disks_refu
set_option Elab.async false
set_option linter.all false
set_option maxRecDepth 100000
set_option maxHeartbeats 4000000
/-! M0 -/
/-! Readings one step at a time: each lemma turns a reading into what is left to be shown. -/
namespace Mw
open PySem L2
section
variable {σ : St} {H : Hp} {v x y : V} {i : Nat} {Q : VK} {ta tb te : TE} {r : R2} {D : Ends} {K : PySem.W.Frag}
theorem rd_var (h : σ[i]? = some (some v)) (q : Q v H) : tVar i σ H Q := ⟨v, h, q⟩
theorem rd_c (q : Q v H) : tC v σ H Q := q
theorem rd_op (h : ta σ H fun x H1 => tb σ H1 fun y H2 => r x y H2 Q) : tOp r ta tb σ H Q := h
theorem rd_un {r : V → Hp → VK → Prop} (h : ta σ H fun x H1 => r x H1 Q) : tUn r ta σ H Q := h
theorem rd_nil {Q : List V → Hp → Prop} (q : Q [] H) : tNil σ H Q := q
theorem rd_cons {tr : TA} {Q : List V → Hp → Prop} (h : ta σ H fun x H1 => tr σ H1 fun xs H2 => Q (x :: xs) H2) : tCons ta tr σ H Q := h
theorem rd_disp {xs : List V} {B : Prop} (hl : Nat.ble xs.length 1000 = true) (q : B) : xs.length ≤ sizeLine ∧ B := ⟨Nat.le_trans (Nat.le_of_ble_eq_true hl) (by decide), q⟩
theorem rd_tup {t : TA} (h : t σ H fun xs H1 => xs.length ≤ sizeLine ∧ ∀ p, H1 p = none → Q (.ref p) (upd H1 p (.tup xs))) : tTup t σ H Q := h
theorem rd_lst {t : TA} (h : t σ H fun xs H1 => xs.length ≤ sizeLine ∧ ∀ p, H1 p = none → Q (.ref p) (upd H1 p (.lst xs))) : tLst t σ H Q := h
theorem rd_ifs {c : TT} {t u : TS} (h : c σ H fun b H1 => if b = true then t D σ H1 else u D σ H1) : tIfS c t u D σ H := h
theorem rd_seq {t u : TS} (h : t { D with nx := u D } σ H) : tSeq t u D σ H := h
theorem rd_next (h : D.nx σ H) : tNext D σ H := h
theorem rd_ret (h : te σ H D.rt) : tRet te D σ H := h
theorem rd_asg {g : TG} (h : te σ H fun x H1 => g x σ H1 D.nx) : tAsg te g D σ H := h
theorem rd_gname {Q : St → Hp → Prop} (h : Q (σ.set i (some v)) H) : gName i v σ H Q := h
theorem rd_drop (h : te σ H fun _ H1 => D.nx σ H1) : tDrop te D σ H := h
theorem rd_test {Q : Bool → Hp → Prop} (h : te σ H fun x H' => ∃ k, x = .bl k ∧ Q k H') : tTest te σ H Q := h
theorem rd_B {Q : Bool → Hp → Prop} (h : te σ H fun x H1 => ∃ c, x = .bl c ∧ Q c H1) : tB te σ H Q := h
theorem rd_bl {b : Bool} {Q : Bool → Hp → Prop} (q : Q b H) : ∃ k, V.bl b = .bl k ∧ Q k H := ⟨b, rfl, q⟩
theorem rd_blP {b : Bool} {Q : Bool → Prop} (q : Q b) : ∃ k, V.bl b = .bl k ∧ Q k := ⟨b, rfl, q⟩
theorem rd_andV (h : ta σ H fun x H1 => ∃ c, x = .bl c ∧ if c = true then tb σ H1 Q else Q (.bl false) H1) : tAndV ta tb σ H Q := h
theorem rd_orV (h : ta σ H fun x H1 => ∃ c, x = .bl c ∧ if c = true then Q (.bl true) H1 else tb σ H1 Q) : tOrV ta tb σ H Q := h
theorem rd_notV (h : ta σ H fun x H1 => ∃ c, x = .bl c ∧ Q (.bl (!c)) H1) : tNotV ta σ H Q := h
theorem rd_and {t u : TT} {Q : Bool → Hp → Prop} (h : t σ H fun c H1 => if c = true then u σ H1 Q else Q false H1) : tAnd t u σ H Q := h
theorem rd_or {t u : TT} {Q : Bool → Hp → Prop} (h : t σ H fun c H1 => if c = true then Q true H1 else u σ H1 Q) : tOr t u σ H Q := h
theorem rd_not {t : TT} {Q : Bool → Hp → Prop} (h : t σ H fun c H1 => Q (!c) H1) : tNot t σ H Q := h
theorem rd_cb {r : List V → Hp → VK → Prop} {t : TA} (h : t σ H fun vs H1 => r vs H1 Q) : tCB r t σ H Q := h
theorem rd_call {sp : Sp} {dvs : List V} {E : XK} {t : TA} (h : t σ H fun vs H1 => sp (vs ++ dvs) H1 Q E) : tCall sp dvs E t σ H Q := h
theorem rd_i0 {g : Int → Int → V} {a b : Int} (q : Q (g a b) H) : rI0 g (.int a) (.int b) H Q := ⟨a, b, rfl, rfl, q⟩
theorem rd_eq (hs : scal x y = true) (q : Q (.bl (decide (x = y))) H) : rEq x y H Q := ⟨hs, q⟩
end
section
variable {σ : L2.St} {H : Hp} {x y : V} {Q : VK} {te : TE} {K : PySem.W.Frag}
theorem rd_sl {r : V → Option Int → Option Int → Hp → VK → Prop} {tl th : TO} (h : te σ H fun x H1 => tl σ H1 fun l H2 => th σ H2 fun u H3 => r x l u H3 Q) : tSl r te tl th σ H Q := h
theorem rd_nopart {Q : Option Int → Hp → Prop} (h : Q none H) : tNoPart σ H Q := h
theorem rd_part {Q : Option Int → Hp → Prop} (h : te σ H fun x H1 => ∃ i, x = .int i ∧ Q (some i) H1) : tPart te σ H Q := h
theorem rd_intP {j : Int} {P : Int → Prop} (h : P j) : ∃ i, V.int j = .int i ∧ P i := ⟨j, rfl, h⟩
theorem rd_fld {f : Str} (h : te σ H fun x H1 => ∃ a C dx fs v, x = .ref a ∧ H1 a = some (.ins C dx fs) ∧ Cls K C ∧ NoAttr K C f ∧ fs.lookup f = some v ∧ Q v H1) : tFld K te f σ H Q := h
theorem rd_ne (hs : scal x y = true) (q : Q (.bl (!decide (x = y))) H) : rNe x y H Q := ⟨hs, q⟩
theorem rd_rU {g : Int → V} {a : Int} (q : Q (g a) H) : rU g (.int a) H Q := ⟨a, rfl, q⟩
theorem rd_iC {C : Int → Int → Prop} {g : Int → Int → V} {a b : Int} (hc : C a b) (q : Q (g a b) H) : rI C g (.int a) (.int b) H Q := ⟨a, b, rfl, rfl, hc, q⟩
theorem rd_eqI {a b : Int} (q : Q (.bl (decide (a = b))) H) : rEq (.int a) (.int b) H Q := ⟨rfl, by rw [show decide (V.int a = V.int b) = decide (a = b) by simp]; exact q⟩
theorem rd_neI {a b : Int} (q : Q (.bl (!decide (a = b))) H) : rNe (.int a) (.int b) H Q := ⟨rfl, by rw [show decide (V.int a = V.int b) = decide (a = b) by simp]; exact q⟩
end
/-! the step: all that needs no choice -/
local macro_rules | `(tactic| walk_at "rd") => `(tactic| (repeat (first
  | ((with_reducible refine' rd_var ?h0 ?_); (case h0 => rfl))
  | with_reducible refine rd_c ?_
  | with_reducible refine rd_op ?_
  | with_reducible refine rd_nil ?_
  | with_reducible refine rd_cons ?_
  | with_reducible refine rd_tup ?_
  | with_reducible refine rd_lst ?_
  | with_reducible refine rd_ifs ?_
  | with_reducible refine rd_seq ?_
  | with_reducible refine rd_next ?_
  | with_reducible refine rd_ret ?_
  | with_reducible refine rd_asg ?_
  | with_reducible refine rd_gname ?_
  | with_reducible refine rd_drop ?_
  | with_reducible refine rd_test ?_
  | with_reducible refine rd_B ?_
  | with_reducible refine rd_bl ?_
  | with_reducible refine rd_blP ?_
  | with_reducible refine rd_andV ?_
  | with_reducible refine rd_orV ?_
  | with_reducible refine rd_notV ?_
  | with_reducible refine rd_and ?_
  | with_reducible refine rd_or ?_
  | with_reducible refine rd_not ?_
  | with_reducible refine rd_cb ?_
  | with_reducible refine rd_call ?_
  | with_reducible refine rd_un ?_
  | with_reducible refine rd_sl ?_
  | with_reducible refine rd_nopart ?_
  | with_reducible refine rd_part ?_
  | with_reducible refine rd_intP ?_
  | with_reducible refine rd_rU ?_
  | with_reducible refine rd_fld ?_
  | with_reducible refine rd_eqI ?_
  | with_reducible refine rd_neI ?_
  | with_reducible refine rd_i0 ?_)))
end Mw

/-! MR1 -/
/-! enumerate over a tuple. -/
namespace Mw
open PySem PySem.Spec PyProof.Rows L2
section
variable {prog : Program} {w : World} {A : Around} {E : Value → Shared → Prop} {s : Shared}
/-- a tuple's own iterator, as something that is drawn from -/
theorem drawsT (hh : A.handled = none) {it a : Addr} {items : Array Value} (hne : a ≠ it) :
    Draws prog w A it [it, a] items.size (fun i x => items[i]? = some x) (fun i h => h.IsTupleIter it a i ∧ h.IsTuple a items) where
  live := fun i h st => by
    obtain ⟨⟨o, ho, _⟩, _⟩ := st
    exact ⟨o, ho⟩
  frame := fun i h h' st k => by
    obtain ⟨⟨o, ho, r⟩, ⟨o2, ho2, r2⟩⟩ := st
    exact ⟨⟨o, k it (by simp) o ho, r⟩, ⟨o2, k a (by simp) o2 ho2, r2⟩⟩
  item := fun i s Q E hi st hQ => by
    obtain ⟨h1, h2⟩ := st
    refine RZ.nextOf_tuple_item h1 h2 (x := items[i]) (by simp [hi]) fun h' hit' sb => ?_
    obtain ⟨o2, ho2, r2⟩ := h2
    exact hQ _ h' s.toks (by simp [hi]) ⟨hit', ⟨o2, (sb.2 a hne).trans ho2, r2⟩⟩ sb
  done := fun s Q E st hE => RZ.nextOf_tuple_end hh st.1 st.2 (by simp) hE
theorem enum_newT (l : Addr) (items : Array Value) :
    Meets (Builtin.«enumerate.__new__» ⟨[.type "enumerate", .ref l], []⟩) (fun _ R s => s.heap.IsTuple l items ∧
      R (.ok (.ret (.ref (s.heap.push { cls := .type "tuple_iterator", data := .fields #[.ref l, .int 0 0] }).objs.size)))
        { s with heap := (s.heap.push { cls := .type "tuple_iterator", data := .fields #[.ref l, .int 0 0] }).push { cls := .type "enumerate", data := .fields #[.none, .bool false, .ref s.heap.objs.size, rawInt 0, .none, .none] } }) :=
  .of_wp fun prog w A R s h => by
    obtain ⟨hp, g, d, tk, os⟩ := s
    obtain ⟨hl, h⟩ := h
    have hsub := sub_enumerate
    have hT : Heap.IsTuple (Shared.heap ⟨hp, g, d, tk, os⟩) l items := hl
    wp_walk using wpAny_pyIter_tuple hT
    refine wpAny_stack_any fun st => wpAny_pure ?_
    split
    · rename_i c _ _ _ _ _
      cases (c == Value.type "enumerate")
      all_goals
        wp_walk using wpAny_pyIter_tuple hT
        exact ⟨_, rfl, h⟩
    · wp_walk using wpAny_pyIter_tuple hT
      exact ⟨_, rfl, h⟩
theorem call_enumT {l : Addr} {items : Array Value} {Q : Value → Shared → Prop} (hT : s.heap.IsTuple l items)
    (h : ∀ h', IsEnum h' (s.heap.objs.size + 1) s.heap.objs.size 0 .none → h'.IsTupleIter s.heap.objs.size l 0 →
      (∀ c u, s.heap.get? c = some u → h'.get? c = some u) → Q (.ref (s.heap.objs.size + 1)) { s with heap := h' }) :
    wpAny (model prog w) A (call (.type "enumerate") [.ref l]) Q E s := by
  refine callType_new F.called_enumerate (by decide) (F.typeCall_enumerate_1 _) (F.newCall_enumerate_1 _) (fun o => F.args_object_init_2 o _) F.entry_enumerate_new (enum_newT l items) ⟨hT, ?_⟩
  generalize hit : ({ cls := .type "tuple_iterator", data := .fields #[.ref l, .int 0 0] } : Obj) = oi
  have hz : (s.heap.push oi).objs.size = s.heap.objs.size + 1 := Heap.size_push ..
  show _ ∧ _
  rw [hz]
  have he : IsEnum ((s.heap.push oi).push { cls := .type "enumerate", data := .fields #[.none, .bool false, .ref s.heap.objs.size, rawInt 0, .none, .none] }) (s.heap.objs.size + 1) s.heap.objs.size 0 .none := by
    have q := Heap.get?_push_size (s.heap.push oi) (o := { cls := .type "enumerate", data := .fields #[.none, .bool false, .ref s.heap.objs.size, rawInt 0, .none, .none] }) rfl
    rw [hz] at q
    exact q
  refine ⟨⟨_, he, rfl⟩, h _ he ⟨oi, Heap.get?_push_of_some _ (Heap.get?_push_size _ (by rw [← hit]; rfl)), by rw [← hit], by rw [← hit]; rfl⟩ fun c u x => Heap.get?_push_of_some _ (Heap.get?_push_of_some _ x)⟩
end
/-- the tuple at a, each item in a new pair with its number -/
def IteT (K : PySem.W.Frag) (a : Addr) : It :=
  ⟨fun i H => ∃ (xs : List V) (x : V), SqT K H a xs ∧ xs[i]? = some x, fun i H v H' => ∃ T x, v = .ref T ∧ H T = none ∧ H' = upd H T (.tup [.int (i : Nat), x]) ∧ ∀ ys, SqT K H a ys → ys[i]? = some x,
    fun i H => ∃ xs : List V, SqT K H a xs ∧ xs.length ≤ i⟩
theorem turn_enumT {P : Program} {w : World} {K : PySem.W.Frag} {elts : List Expr} {kk : Nat} {tpos : Pos} (a e it : Addr) (hea : e ≠ a) (hia : a ≠ it) :
    Turn P w K (.Tuple elts kk tpos) (IteT K a) [e, it] e (fun i h => (∃ old, IsEnum h e it ((i : Nat) : Int) old) ∧ h.IsTupleIter it a i ∧ e ≠ it) where
  mem := by simp
  obj := fun i h st b hb => by
    obtain ⟨⟨old, he⟩, ⟨o, ho, hc, hd⟩, _⟩ := st
    have e' : b = e ∨ b = it := by simpa using hb
    rcases e' with z | z
    · rw [z]; exact ⟨_, he, fun v q => nomatch q⟩
    · exact ⟨o, by rw [z]; exact ho, fun v q => by rw [hd] at q; cases q⟩
  keep := fun i h h' st k => by
    obtain ⟨⟨old, he⟩, hi, hne⟩ := st
    exact ⟨⟨old, k e (by simp) _ he⟩, hi.at fun o q => k it (by simp) o q, hne⟩
  item := by
    intro X hP hw hK hc i pins s σ H E I hf st hg
    subst hP hw hK
    obtain ⟨⟨old, he⟩, hit, hne⟩ := st
    obtain ⟨xs, x, hq, hx⟩ := hg
    obtain ⟨its, rv, p, hz⟩ := I.tuple hq
    obtain ⟨u, hu, ru⟩ := rv.get hx
    have hel : e < s.heap.objs.size := Heap.lt_size he
    have hil : it < s.heap.objs.size := by
      obtain ⟨_, q, _⟩ := hit
      exact Heap.lt_size q
    have hT : s.heap.IsTuple a its.toArray := p
    have hlt : i < its.toArray.size := by
      have q := (List.getElem?_eq_some_iff.mp hu).1
      simpa using q
    refine wpAny_pyNext_enum_itemD (drawsT (A := X.A.in1) (prog := X.prog) (w := X.w) (I.ok.hd hc) hia) he ⟨hit, hT⟩ hlt hne (by simp [hne, hea]) fun x' h' tk hx' ho hs' hT' hsz hk => ?_
    obtain rfl : x' = u := by
      have q : its[i]? = some x' := by simpa using hx'
      rw [hu] at q
      exact (Option.some.inj q).symm
    refine ⟨_, rfl, wpAny_letOwnedTupleGo_enum (s := { s with heap := h', toks := tk + 1 }) ho fun h2 he2 sb => ?_⟩
    have hT2 : h2.get? s.heap.objs.size = some { cls := .type "tuple", data := .seq #[.int i tk, x'] } := (sb.2 _ (Nat.ne_of_gt hel)).trans hT'
    have new : ObjOk X.prog X.w (upd H s.heap.objs.size (.tup [.int (i : Nat), x])) h2 s.heap.objs.size (.tup [.int (i : Nat), x]) :=
      ⟨(by decide : 2 ≤ sizeLine), [.int i tk, x'], .cons ⟨_, rfl⟩ (.cons ru .nil), ⟨_, hT2, rfl, _, rfl⟩⟩
    have I1 : Inv X pins σ (upd H s.heap.objs.size (.tup [.int (i : Nat), x])) { s with heap := h2, toks := tk + 1 } :=
      I.turnedNew (ch := [e, it]) (fun b u hb q => (sb.2 b fun z => hb (by simp [z])).trans (hk b u (fun z => hb (by simp [z])) (fun z => hb (by simp [z])) q)) hf (Nat.le_refl _) new
    refine ⟨.ref s.heap.objs.size, _, I1, rfl, ⟨_, x, rfl, I.hok.fresh (Nat.le_refl _), rfl, fun ys hy => by rw [I.tuple_inj hy hq]; exact hx⟩, ⟨⟨x', ?_⟩, hs'.1.at fun o q => (sb.2 it (Ne.symm hne)).trans q, hne⟩, fun b hb => ?_⟩
    · rw [show ((i + 1 : Nat) : Int) = (i : Int) + 1 by omega]
      exact he2
    · have hb' : b < s.heap.objs.size := by
        have e' : b = e ∨ b = it := by simpa using hb
        rcases e' with z | z <;> rw [z] <;> assumption
      rw [upd_ne (Nat.ne_of_lt hb')]
      exact (hf b hb).1
  done := by
    intro X hP hw hK hc i pins s σ H E I hf st hg
    subst hP hw hK
    obtain ⟨⟨old, he⟩, hit, hne⟩ := st
    obtain ⟨xs, hq, hx⟩ := hg
    obtain ⟨its, rv, p, hz⟩ := I.tuple hq
    obtain ⟨f0, f1, f2, f3, f4, f5⟩ := hf it (by simp)
    have hl := rv.length
    have hT : s.heap.IsTuple a its.toArray := p
    have D : Draws X.prog X.w X.A.in1 it [it, a] i (fun _ _ => False) (fun j h => j = i ∧ h.IsTupleIter it a i ∧ h.IsTuple a its.toArray) := {
      live := fun j h st => (drawsT (A := X.A.in1) (prog := X.prog) (w := X.w) (items := its.toArray) (I.ok.hd hc) hia).live i h st.2
      frame := fun j h h' st k => ⟨st.1, (drawsT (A := X.A.in1) (prog := X.prog) (w := X.w) (items := its.toArray) (I.ok.hd hc) hia).frame i h h' st.2 k⟩
      item := fun j s Q E hj st hQ => absurd hj (by rw [st.1]; omega)
      done := fun s Q E st hE => RZ.nextOf_tuple_end (I.ok.hd hc) st.2.1 st.2.2 (by simp; omega) hE }
    exact wpAny_pyNext_enum_endD D he ⟨rfl, hit, hT⟩ fun h' eb => ⟨rfl, I.turned (t' := s.toks) (fun b o hb q => eb b o hb q) f0 f1 f3 f4 f5⟩
  self := fun A i s Q E st h => by
    obtain ⟨⟨_, he⟩, _⟩ := st
    exact wpAny_pyIter_enum he h
def iEnumT (K : PySem.W.Frag) (ta : TA) : TI := fun σ H R => ta σ H fun vs H1 => ∃ a xs, vs = [.ref a] ∧ SqT K H1 a xs ∧ R (IteT K a) H1
theorem pi_enumT {X : Cx} {e : Expr} {ta : TA} {p pos tpos : Pos} {elts : List Expr} {kk : Nat} (hg : Gl X "enumerate") (hm : X.mg "enumerate" = none) (ha : PA X [e] ta) (hs : starEach [e] X.env = [(false, eval e X.env)] := by rfl) :
    PI X (.Tuple elts kk tpos) (.Call (.Name "enumerate" p) [e] [] pos) (iEnumT X.K ta) := by
  refine ⟨fun pins s σ H R I h => ?_⟩
  refine Call_ (ld_blt I hg hm boot_enumerate (PyProof.Rows.callWith_type1 (thn (ha.run pos pins s σ H _ I h) fun us s1 hh => ?_) hs rfl))
  obtain ⟨vs, H1, I1, r1, a, xs, ex, hq, q⟩ := hh
  subst ex
  cases r1 with
  | cons r rr =>
    cases rr
    cases r
    obtain ⟨its, rv, p1, hz⟩ := I1.tuple hq
    have hT : s1.heap.IsTuple a its.toArray := p1
    have hal : a < s1.heap.objs.size := by
      obtain ⟨o, ho, _⟩ := id hT
      exact Heap.lt_size ho
    refine call_enumT hT fun h' he hit hk => wpAny_pyIter_enum he ?_
    have I2 : Inv X pins σ H1 { s1 with heap := h' } := I1.kept (t' := s1.toks) hk
    refine ⟨s1.heap.objs.size + 1, [s1.heap.objs.size + 1, s1.heap.objs.size], _, _, H1, rfl, I2, turn_enumT a (s1.heap.objs.size + 1) s1.heap.objs.size (Nat.ne_of_gt (Nat.lt_succ_of_lt hal)) (Nat.ne_of_lt hal), ⟨⟨.none, he⟩, hit, Nat.succ_ne_self _⟩, fun b hb => ?_, q⟩
    have e' : b = s1.heap.objs.size + 1 ∨ b = s1.heap.objs.size := by simpa using hb
    have hle : s1.heap.objs.size ≤ b := by
      rcases e' with z | z
      · exact Nat.le_trans (Nat.le_succ _) (Nat.le_of_eq z.symm)
      · exact Nat.le_of_eq z.symm
    exact I1.fpOk hle (I1.hok.fresh hle)
/-- a loop over it -/
theorem for_enumT {K : PySem.W.Frag} {a : Addr} {xs : List V} {g : TG} {tb : TS} {D : Ends} {σ : L2.St} {H : Hp} (Pv : Nat → L2.St → Hp → Prop) (h0 : Pv 0 σ H) (hl : ∀ i σ H, Pv i σ H → SqT K H a xs)
    (hs : ∀ i x T σ H, xs[i]? = some x → Pv i σ H → H T = none → g (.ref T) σ (upd H T (.tup [.int (i : Nat), x])) fun σ2 H2 => tb { D with nx := Pv (i + 1), ct := Pv (i + 1), bk := D.nx } σ2 H2) (hd : ∀ σ H, Pv xs.length σ H → D.nx σ H) :
    ∃ W : Nat → Nat → L2.St → Hp → Prop, (∃ m, W 0 m σ H) ∧ ∀ i m σ H, W i m σ H →
      ((IteT K a).stop i H ∧ D.nx σ H) ∨ ((IteT K a).go i H ∧ ∃ N : L2.St → Hp → Prop, (∀ σ' H', N σ' H' → ∃ m', m' < m ∧ W (i + 1) m' σ' H') ∧ ∀ x H', (IteT K a).yld i H x H' → g x σ H' fun σ2 H2 => tb { D with nx := N, ct := N, bk := D.nx } σ2 H2) := by
  refine ⟨fun i m σ H => m + i = xs.length ∧ Pv i σ H, ⟨xs.length, rfl, h0⟩, ?_⟩
  rintro i m σ H ⟨hm, pv⟩
  have q := hl i σ H pv
  cases m with
  | zero =>
    have e : i = xs.length := by omega
    subst e
    exact .inl ⟨⟨xs, q, Nat.le_refl _⟩, hd σ H pv⟩
  | succ m =>
    have hlt : i < xs.length := by omega
    have hx : xs[i]? = some xs[i] := by simp [hlt]
    refine .inr ⟨⟨xs, xs[i], q, hx⟩, Pv (i + 1), fun σ' H' p' => ⟨m, by omega, by omega, p'⟩, fun v H' y => ?_⟩
    obtain ⟨T, x, ev, hT, eH, hy⟩ := y
    subst ev eH
    have hx2 := hy xs q
    exact hs i x T σ H hx2 pv hT
end Mw

/-! MR2 -/
/-! An own error whose __init__ only passes; is of a flag; == by an own __eq__ with both answers. -/
namespace Mw
open PySem PySem.Spec PyProof.Rows L2
abbrev Sl := L2.St
/-- C(), its own __init__ keeping sp: it takes the new exception and leaves all as it was -/
def tMkP (C : Addr) (sp : Sp) : Sl → Hp → XK → Prop := fun _ H Q => ∀ a, H a = none → sp [.ref a] (upd H a (exo a C none)) (fun v H2 => v = .non ∧ H2 = upd H a (exo a C none)) (fun _ _ _ => False) ∧ Q (.ref C) none H
theorem mkP_end {X : Cx} {pins : List (Addr × Obj)} {σ : Sl} {H : Hp} {Q : XK} {hp hp2 h2 : Heap} {g1 g2 : Array GenState} {d1 d2 : Drawn} {t1 t2 : Nat} {os1 os2 : OsState} {a C : Addr} (T : Raises X (.ref C)) (I : Inv X pins σ H ⟨hp, g1, d1, t1, os1⟩)
    (ha : hp.objs.size ≤ a) (k : ∀ c u, hp.get? c = some u → hp2.get? c = some u) (un : Un (frs X.stack) [] (upd H a (exo a C none)) (upd H a (exo a C none)) hp2 h2) (hok : HOk X.prog X.w (upd H a (exo a C none)) h2) (ho : os2 = os1) (hb : AllBare g2)
    (q : Q (.ref C) none H) : MkP X pins σ Q (.ref a) ⟨h2, g2, d2, t2, os2⟩ := by
  obtain ⟨t0, hoe⟩ := exo_at hok (upd_same (H := H) (a := a) (o := exo a C none))
  have hn : H a = none := I.hok.fresh ha
  obtain ⟨G, y1, y2⟩ := restrict h2 fun c => decide (c ≠ a)
  have gk : ∀ c, c ≠ a → G.get? c = h2.get? c := fun c hc => y1 c (decide_eq_true hc)
  have ge : G.get? a = none := y2 a (by simp)
  have nha : ∀ {c : Addr} {u : Obj}, hp.get? c = some u → c ≠ a := fun {c u} z => Nat.ne_of_lt (Nat.lt_of_lt_of_le (Heap.lt_size z) ha)
  have up : ∀ {c : Addr}, c ≠ a → H c = none → upd H a (exo a C none) c = none := fun {c} hc n => (upd_ne hc).trans n
  have U : Un (frs X.stack) [] H H hp G := {
    keep := fun c u z n hf hx => (gk c (nha z)).trans (un.keep c u (k c u z) (up (nha z) n) hf hx)
    slot := fun c u z n hf hx => by
      obtain ⟨sl, e⟩ := un.slot c u (k c u z) (up (nha z) n) hf hx
      exact ⟨sl, (gk c (nha z)).trans e⟩
    free := fun _ _ _ n _ => n
    there := fun c u z hx => by
      obtain ⟨u', e⟩ := un.there c u (k c u z) hx
      exact ⟨u', (gk c (nha z)).trans e⟩
    tups := fun _ _ z => z
    frzs := fun _ _ _ z => z
    tbls := fun _ ps z => ⟨#[], by rw [z]; simp⟩ }
  have hok3 : HOk X.prog X.w H G := fun c o z => by
    have hca : c ≠ a := ne_of_none z hn
    have z2 : upd H a (exo a C none) c = some o := (upd_ne hca).trans z
    have noa : ∀ {x : Addr} {u : HO}, upd H a (exo a C none) x = some u → u ≠ exo a C none → x ≠ a := fun {x u} hx hu e => hu (by rw [e, upd_same] at hx; exact (Option.some.inj hx).symm)
    refine (hok c o z2).stay (fun x v hx y => ?_) (fun x hx => ?_) (fun x xs hx => ?_)
    · have hxa : x ≠ a := by
        rcases hx with hx | hx
        · rw [hx]
          exact hca
        · exact noa hx (Ne.symm exo_own)
      exact (gk x hxa).trans y
    · exact (upd_ne (noa hx (Ne.symm exo_own))).symm.trans hx
    · exact (upd_ne (noa hx (Ne.symm exo_tup))).symm.trans hx
  have J : Inv X pins σ H ⟨G, g2, d2, t2, os2⟩ := I.call' (ch := []) ho U hok3 hb (fun c z => absurd z (by simp))
  refine ⟨a, _, _, ⟨G, g2, d2, t2, os2⟩, H, .ref C, none, rfl, J, fun c u z => ?_, ge, hoe, ⟨rfl, rfl⟩, rfl, rfl, hn, rfl, hb, T, q⟩
  by_cases hca : c = a
  · rw [hca, ge] at z
    cases z
  · exact (gk c hca).symm.trans z
theorem pmk_pass {X : Cx} {CX : CXT} {x : Str} {C fI : Addr} {k : Nat} {fd : FuncData} {ps : List Str} {sp : Sp} {p pos : Pos} (T : OexC X.K C) (iC : PySem.W.findIn X.K (.ref C) "__init__" = some (some (.ref fI))) (tI : PySem.W.typeIn X.K (.ref fI) = some (.type "function"))
    (F1 : FnOk X.prog X.w X.K X.mg X.base CX k fI fd ps sp) (hr : Room (k + 1) X.A) (hb : Binds X.K fd ps []) (hx : Passes CX X (fun _ _ _ => False)) (hg : Gl X x) (hm : X.mg x = some (.ref C))
    (hdb : (x == ("__debug__" : Str)) = false := by decide) : PMk X (.Call (.Name x p) [] [] pos) (tMkP C sp) := by
  intro pins s σ H Q I h
  obtain ⟨nm, q, N, bs, bm, sn, sub, ab, col, dd, k0, k1, k2, k3, k5, hC, hbm⟩ := T.cls
  refine wpAny_Call_Name_kw (ld_glob I hg hm ?_ hdb)
  refine PySem.W.callWith_K0 I.kIn T.kC ?_
  obtain ⟨hp, g, dr, tk, os⟩ := s
  have hsz : hp.objs.size ≤ hp.objs.size + 1 := Nat.le_succ _
  obtain ⟨hq, hQ⟩ := h (hp.objs.size + 1) (I.hok.fresh hsz)
  have kk : ∀ c u, hp.get? c = some u → ((hp.push (PySem.W.kdv_tup [])).push (PySem.HandSPX.excO C hp.objs.size)).get? c = some u := fun c u e => Heap.get?_push_of_some _ (Heap.get?_push_of_some _ e)
  have hget : ((hp.push (PySem.W.kdv_tup [])).push (PySem.HandSPX.excO C hp.objs.size)).get? (hp.objs.size + 1) = some (PySem.HandSPX.excO C hp.objs.size) := by heap_get
  have I2 : Inv X pins σ (upd H (hp.objs.size + 1) (exo (hp.objs.size + 1) C none)) ⟨(hp.push (PySem.W.kdv_tup [])).push (PySem.HandSPX.excO C hp.objs.size), g, dr, tk, os⟩ :=
    I.laid (t' := tk) (a := hp.objs.size + 1) (o := exo (hp.objs.size + 1) C none) (h' := (hp.push (PySem.W.kdv_tup [])).push (PySem.HandSPX.excO C hp.objs.size)) kk hsz (exo_ok hget)
  have hl : [Value.ref (hp.objs.size + 1)].length = ps.length := (F1.len _ _ _ _ hq)
  refine wpAny_call (PySem.HandSPX.call_own F.excBase_ValueError (fun Y => PySem.HandSPX.refsVE_contains Y bm hbm) (I.kIn _ _ hC) (PySem.W.looks_findIn I.kIn iC) (fun self => PySem.W.bind_fn I.kIn self tI) (by show 0 ≤ sizeLine; exact Nat.zero_le _)
    (codeAny_mono (F1.run _ X.stack _ _ ⟨[Value.ref (hp.objs.size + 1)], []⟩ [Value.ref (hp.objs.size + 1)] [V.ref (hp.objs.size + 1)] _ (fun _ _ _ => False) (hr.make C [] []) (I2.env0.make C [] []) (by
      have b := hb _ [Value.ref (hp.objs.size + 1)] I2.kIn hl
      simpa using b) (show Vals [V.ref _] [Value.ref _] from .cons rfl .nil) hq) fun r s' hq' => ?_))
  cases r with
  | error er => exact hx pins σ _ _ er s' I2 hq'
  | ok fl =>
    cases fl with
    | ret u =>
      obtain ⟨v, H2, os2, bare2, un2, hok2, rv, ev, eH⟩ := hq'
      subst ev eH
      obtain ⟨h2, g2, d2, t2, os'⟩ := s'
      exact ⟨rv, mkP_end (raises_own T.exC T.tyC) I hsz kk un2 hok2 os2 bare2 hQ⟩
    | next => exact False.elim hq'
    | brk => exact False.elim hq'
    | cont => exact False.elim hq'

/-! ### is True, is False -/
theorem is_flag {X : Cx} {b : Bool} : OpR X (compareOp .Is) (fun x y H Q => y = .bl b ∧ Q (.bl (decide (x = .bl b))) H) := by
  intro pins s σ H x y v u Q I rx ry h
  obtain ⟨rfl, q⟩ := h
  cases (show u = Value.bool b from ry)
  by_cases e : x = .bl b
  · subst e
    cases (show v = Value.bool b from rx)
    exact wpAny_is_self rfl ⟨.bl true, H, I, rfl, by simpa using q⟩
  · have q' : Q (.bl false) H := by simpa [e] using q
    cases x with
    | bl c =>
      cases (show v = Value.bool c from rx)
      exact wpAny_is_other rfl (fun z => e (by cases z; rfl)) ⟨.bl false, H, I, rfl, q'⟩
    | int i =>
      obtain ⟨_, z⟩ := (show ∃ t, v = Value.int i t from rx)
      subst z
      exact wpAny_is_other rfl (fun z => nomatch z) ⟨.bl false, H, I, rfl, q'⟩
    | str i =>
      obtain ⟨_, z⟩ := (show ∃ t, v = Value.str i t from rx)
      subst z
      exact wpAny_is_other rfl (fun z => nomatch z) ⟨.bl false, H, I, rfl, q'⟩
    | byt i =>
      obtain ⟨_, z⟩ := (show ∃ t, v = Value.bytes i t from rx)
      subst z
      exact wpAny_is_other rfl (fun z => nomatch z) ⟨.bl false, H, I, rfl, q'⟩
    | flt i =>
      obtain ⟨_, z⟩ := (show ∃ t, v = Value.float i t from rx)
      subst z
      exact wpAny_is_other rfl (fun z => nomatch z) ⟨.bl false, H, I, rfl, q'⟩
    | non =>
      cases (show v = Value.none from rx)
      exact wpAny_is_other rfl (fun z => nomatch z) ⟨.bl false, H, I, rfl, q'⟩
    | ref i =>
      cases (show v = Value.ref i from rx)
      exact wpAny_is_other rfl (fun z => nomatch z) ⟨.bl false, H, I, rfl, q'⟩
    | ty i =>
      cases (show v = Value.type i from rx)
      exact wpAny_is_other rfl (fun z => nomatch z) ⟨.bl false, H, I, rfl, q'⟩

/-! ### == by an own __eq__ of the class at C, whatever it answers -/
/-- what __eq__ promises: of the instance at a and the value y it answers r -/
def spEq2 (R : Addr → V → Hp → Bool → Prop) : Sp := fun vs H Q _ => ∃ a y r, vs = [.ref a, y] ∧ R a y H r ∧ Q (.bl r) H
/-- the left one an instance of C, the right one another such or a tuple -/
def rEqI (C : Addr) (R : Addr → V → Hp → Bool → Prop) : R2 := fun x y H Q => ∃ a b dx fs r, x = .ref a ∧ y = .ref b ∧ H a = some (.ins C dx fs) ∧ ((∃ dy gs, H b = some (.ins C dy gs)) ∨ ∃ ys, H b = some (.tup ys)) ∧ R a y H r ∧ Q (.bl r) H
theorem op_eqI {X : Cx} {CX : CXT} {n : Nat} {C f : Addr} {fd : FuncData} {ps : List Str} {R : Addr → V → Hp → Bool → Prop} {E : XK} (F : FnOk X.prog X.w X.K X.mg X.base CX n f fd ps (spEq2 R)) (hr : Room n X.A)
    (hs : PySem.W.findIn X.K (.ref C) "__eq__" = some (some (.ref f))) (hf : PySem.W.isFn X.K (.ref f) = true) (hb : Binds X.K fd ps []) (hx : Passes CX X E) (hn : PySem.W.notFirst X.K C (.type "tuple") = true) : OpR X (compareOp .Eq) (rEqI C R) := by
  intro pins s σ H x y u v Q I rx ry h
  obtain ⟨a, b, dx, fs, r0, rfl, rfl, ha, hb', hR, q⟩ := h
  cases rx
  cases ry
  have hsp : spEq2 R [.ref a, .ref b] H Q E := ⟨a, _, r0, rfl, hR, q⟩
  have hl := F.len _ _ _ _ hsp
  have r2 : Vals [V.ref a, V.ref b] [Value.ref a, Value.ref b] := .cons rfl (.cons rfl .nil)
  have go : wpAny (model X.prog X.w) X.A (call (.ref f) [.ref a, .ref b]) (PySem.W.CmpBack (EP X pins σ Q)) X.xe s := by
    refine wpAny_call (codeAny_mono (F.run X.A X.stack s H ⟨[.ref a, .ref b], []⟩ [.ref a, .ref b] [.ref a, .ref b] (fun z H' => (∃ c, z = .bl c) ∧ Q z H') E hr I.env0 (by
      have z := hb s [.ref a, .ref b] I.kIn (by simpa using hl)
      simpa using z) r2 ⟨a, _, r0, rfl, hR, ⟨_, rfl⟩, q⟩) fun r s' hq => ?_)
    cases r with
    | error e => exact hx pins σ H s e s' I hq
    | ok fl =>
      cases fl with
      | ret w =>
        obtain ⟨z, H', I', rz, ⟨c, ez⟩, q'⟩ := I.after hq
        subst ez
        cases rz
        exact ⟨V.bl c, H', I', rfl, q'⟩
      | next => exact False.elim hq
      | brk => exact False.elim hq
      | cont => exact False.elim hq
  obtain ⟨mA, J, _⟩ := ins_get I.hok ha
  obtain ⟨od, J, _⟩ := J.look
  obtain ⟨m, hF⟩ := I.fr
  rcases hb' with ⟨dy, gs, hb'⟩ | ⟨ys, hb'⟩
  · obtain ⟨mB, J', _⟩ := ins_get I.hok hb'
    obtain ⟨od', J', _⟩ := J'.look
    exact PySem.W.cmp_K (op := .Eq) (tb := .ref C) hr.units0 hF I.ok.mod.kin J J'.type (by simp [PySem.W.notFirst]) hs hf go
  · obtain ⟨P, Z, p, _⟩ := kit_of I (show L2.RelV (V.ref b) (Value.ref b) from rfl) (TyX.base (TyOf.tup hb'))
    exact PySem.W.cmp_K (op := .Eq) (tb := .type "tuple") hr.units0 hF I.ok.mod.kin J (Z.ty _ _ I.kIn p) hn hs hf go
end Mw

/-! M1 -/
/-! Data: what stands behind a value, apart from one object p (the hand) that may change. -/
namespace Mw
open PySem L2
/-- an object at a, not the one at p -/
def At (p : Addr) (H : Hp) (a : Addr) (o : HO) : Prop := a ≠ p ∧ H a = some o
/-- all but the object at p is as it was -/
def Keep (p : Addr) (H H' : Hp) : Prop := ∀ a o, a ≠ p → H a = some o → H' a = some o
theorem Keep.refl {p : Addr} {H : Hp} : Keep p H H := fun _ _ _ h => h
theorem Keep.trans {p : Addr} {H H1 H2 : Hp} (x : Keep p H H1) (y : Keep p H1 H2) : Keep p H H2 := fun a o n h => y a o n (x a o n h)
theorem Keep.same {p : Addr} {H H1 : Hp} (x : Same H H1) : Keep p H H1 := fun a o _ h => x a o h
theorem Keep.new {p q : Addr} {H : Hp} {o : HO} (h : H q = none) : Keep p H (upd H q o) := fun a u _ e => (upd_ne (ne_of_none e h)).trans e
theorem Keep.put {p q : Addr} {H H1 : Hp} {o : HO} (x : Keep p H H1) (h : H1 q = none) : Keep p H (upd H1 q o) := x.trans (Keep.new h)
theorem Keep.mut {p : Addr} {H : Hp} {o : HO} : Keep p H (upd H p o) := fun a u n e => (upd_ne n).trans e
theorem Same.put {q : Addr} {H H1 : Hp} {o : HO} (x : Same H H1) (h : H1 q = none) : Same H (upd H1 q o) := fun a u e => (upd_ne (ne_of_none (x a u e) h)).trans (x a u e)
theorem same_new {q : Addr} {H : Hp} {o : HO} (h : H q = none) : Same H (upd H q o) := fun _ _ e => (upd_ne (ne_of_none e h)).trans e
theorem At.keep {p a : Addr} {H H' : Hp} {o : HO} (x : At p H a o) (k : Keep p H H') : At p H' a o := ⟨x.1, k a o x.1 x.2⟩
theorem At.new {p a : Addr} {H : Hp} {o u : HO} (hp : H p = some u) (h : H a = none) : At p (upd H a o) a o := ⟨(ne_of_none hp h).symm, upd_same⟩
/-- what isinstance asks of the class at C -/
structure WebTy (K : PySem.W.Frag) (C : Addr) : Prop where
  cl : Cls K C
  ca : PySem.W.findIn K (.ref C) "__class__" = some (some (.builtin "object.__class__"))
  cg : PySem.W.specialIn K (.builtin "object.__class__") "__get__" = some (some (.builtin "getset_descriptor.__get__"))
  ct : PySem.W.takesIn K (.builtin "object.__class__") = some true
  co : PySem.W.mroIn K C (.type "object") = some true
  ki : PySem.W.kitOne K (.ref C) (.type "int") = some false
  kb : PySem.W.kitOne K (.ref C) (.type "bool") = some false
  kt : PySem.W.kitOne K (.ref C) (.type "tuple") = some false
  kl : PySem.W.kitOne K (.ref C) (.type "list") = some false
  ks : PySem.W.kitOne K (.ref C) (.type "str") = some false
/-- a thing that is none of the judged kinds: an empty dict, an instance of the class at C -/
def Oth (C p : Addr) (H : Hp) (v : V) : Prop := ∃ a, v = .ref a ∧ a ≠ p ∧ (H a = some (.dK []) ∨ ∃ dx fs, H a = some (.ins C dx fs))
mutual
def Tp (C p : Addr) (H : Hp) : PyData → V → Prop
  | .none, v => v = .non
  | .bool b, v => v = .bl b
  | .int i, v => v = .int i
  | .str s, v => v = .str s
  | .list ds, v => ∃ a xs, v = .ref a ∧ a ≠ p ∧ H a = some (.lst xs) ∧ TpAll C p H ds xs
  | .tuple ds, v => ∃ a xs, v = .ref a ∧ a ≠ p ∧ H a = some (.tup xs) ∧ TpAll C p H ds xs
  | .dict _, v => Oth C p H v
def TpAll (C p : Addr) (H : Hp) : List PyData → List V → Prop
  | [], xs => xs = []
  | d :: ds, xs => ∃ x r, xs = x :: r ∧ Tp C p H d x ∧ TpAll C p H ds r
end
section
variable {C p : Addr} {H H' : Hp} {K : PySem.W.Frag}
mutual
theorem Tp.keep (k : Keep p H H') : ∀ (d : PyData) (v : V), Tp C p H d v → Tp C p H' d v
  | .none, v, h => by simpa only [Tp] using h
  | .bool b, v, h => by simpa only [Tp] using h
  | .int i, v, h => by simpa only [Tp] using h
  | .str s, v, h => by simpa only [Tp] using h
  | .list ds, v, h => by
    simp only [Tp] at h ⊢
    obtain ⟨a, xs, e, n, ha, r⟩ := h
    exact ⟨a, xs, e, n, k a _ n ha, TpAll.keep k ds xs r⟩
  | .tuple ds, v, h => by
    simp only [Tp] at h ⊢
    obtain ⟨a, xs, e, n, ha, r⟩ := h
    exact ⟨a, xs, e, n, k a _ n ha, TpAll.keep k ds xs r⟩
  | .dict _, v, h => by
    simp only [Tp] at h ⊢
    obtain ⟨a, e, n, ha | ⟨dx, fs, ha⟩⟩ := h
    · exact ⟨a, e, n, .inl (k a _ n ha)⟩
    · exact ⟨a, e, n, .inr ⟨dx, fs, k a _ n ha⟩⟩
theorem TpAll.keep (k : Keep p H H') : ∀ (ds : List PyData) (xs : List V), TpAll C p H ds xs → TpAll C p H' ds xs
  | [], xs, h => by simpa only [TpAll] using h
  | d :: ds, xs, h => by
    simp only [TpAll] at h ⊢
    obtain ⟨x, r, e, h1, h2⟩ := h
    exact ⟨x, r, e, Tp.keep k d x h1, TpAll.keep k ds r h2⟩
end
theorem tpAll_iff : ∀ (ds : List PyData) (xs : List V), TpAll C p H ds xs ↔ ds.length = xs.length ∧ ∀ (i : Nat) d x, ds[i]? = some d → xs[i]? = some x → Tp C p H d x
  | [], xs => by
    simp only [TpAll]
    constructor
    · rintro rfl
      exact ⟨rfl, fun i d x h _ => by simp at h⟩
    · rintro ⟨h, _⟩
      exact List.length_eq_zero_iff.mp h.symm
  | d :: ds, xs => by
    simp only [TpAll]
    constructor
    · rintro ⟨x, r, rfl, h1, h2⟩
      obtain ⟨hl, hi⟩ := (tpAll_iff ds r).mp h2
      refine ⟨by simp [hl], fun i d' x' e1 e2 => ?_⟩
      cases i with
      | zero =>
        simp only [List.getElem?_cons_zero, Option.some.injEq] at e1 e2
        subst e1 e2
        exact h1
      | succ i =>
        simp only [List.getElem?_cons_succ] at e1 e2
        exact hi i d' x' e1 e2
    · rintro ⟨hl, hi⟩
      cases xs with
      | nil => simp at hl
      | cons x r => exact ⟨x, r, rfl, hi 0 d x rfl rfl, (tpAll_iff ds r).mpr ⟨by simpa using hl, fun i d' x' e1 e2 => hi (i + 1) d' x' (by simpa using e1) (by simpa using e2)⟩⟩
theorem TpAll.len {ds : List PyData} {xs : List V} (h : TpAll C p H ds xs) : ds.length = xs.length := ((tpAll_iff ds xs).mp h).1
theorem TpAll.get {ds : List PyData} {xs : List V} (h : TpAll C p H ds xs) {i : Nat} {d : PyData} (e : ds[i]? = some d) : ∃ x, xs[i]? = some x ∧ Tp C p H d x := by
  obtain ⟨hl, hi⟩ := (tpAll_iff ds xs).mp h
  have hlt := (List.getElem?_eq_some_iff.mp e).1
  have hx : xs[i]? = some (xs[i]'(by omega)) := by simp [show i < xs.length by omega]
  exact ⟨_, hx, hi i d _ e hx⟩
theorem TpAll.get' {ds : List PyData} {xs : List V} (h : TpAll C p H ds xs) {i : Nat} {x : V} (e : xs[i]? = some x) : ∃ d, ds[i]? = some d ∧ Tp C p H d x := by
  obtain ⟨hl, hi⟩ := (tpAll_iff ds xs).mp h
  have hlt := (List.getElem?_eq_some_iff.mp e).1
  have hx : ds[i]? = some (ds[i]'(by omega)) := by simp [show i < ds.length by omega]
  exact ⟨_, hx, hi i _ x hx e⟩
theorem TpAll.append {ds es : List PyData} {xs ys : List V} (h1 : TpAll C p H ds xs) (h2 : TpAll C p H es ys) : TpAll C p H (ds ++ es) (xs ++ ys) := by
  induction ds generalizing xs with
  | nil =>
    simp only [TpAll] at h1
    subst h1
    exact h2
  | cons d ds ih =>
    simp only [TpAll] at h1
    obtain ⟨x, r, rfl, a, b⟩ := h1
    show TpAll C p H (d :: (ds ++ es)) _
    simp only [TpAll]
    exact ⟨x, r ++ ys, rfl, a, ih b⟩
theorem TpAll.take {ds : List PyData} {xs : List V} (h : TpAll C p H ds xs) (n : Nat) : TpAll C p H (ds.take n) (xs.take n) := by
  obtain ⟨hl, hi⟩ := (tpAll_iff ds xs).mp h
  refine (tpAll_iff _ _).mpr ⟨by simp [hl], fun i d x e1 e2 => ?_⟩
  rw [List.getElem?_take] at e1 e2
  by_cases q : i < n
  · rw [if_pos q] at e1 e2
    exact hi i d x e1 e2
  · rw [if_neg q] at e1
    cases e1
theorem TpAll.drop {ds : List PyData} {xs : List V} (h : TpAll C p H ds xs) (n : Nat) : TpAll C p H (ds.drop n) (xs.drop n) := by
  obtain ⟨hl, hi⟩ := (tpAll_iff ds xs).mp h
  refine (tpAll_iff _ _).mpr ⟨by simp [hl], fun i d x e1 e2 => ?_⟩
  rw [List.getElem?_drop] at e1 e2
  exact hi _ d x e1 e2
theorem tpAll_nil : TpAll C p H [] [] := by simp only [TpAll]
theorem tpAll_cons {d : PyData} {ds : List PyData} {x : V} {xs : List V} (h1 : Tp C p H d x) (h2 : TpAll C p H ds xs) : TpAll C p H (d :: ds) (x :: xs) := by
  simp only [TpAll]
  exact ⟨x, xs, rfl, h1, h2⟩
theorem tp_int {i : Int} : Tp C p H (.int i) (.int i) := by simp only [Tp]
theorem tp_str {s : Str} : Tp C p H (.str s) (.str s) := by simp only [Tp]
theorem tp_bl {b : Bool} : Tp C p H (.bool b) (.bl b) := by simp only [Tp]
theorem tp_non : Tp C p H .none .non := by simp only [Tp]
theorem tp_tup {a : Addr} {ds : List PyData} {xs : List V} (h : At p H a (.tup xs)) (r : TpAll C p H ds xs) : Tp C p H (.tuple ds) (.ref a) := by
  simp only [Tp]
  exact ⟨a, xs, rfl, h.1, h.2, r⟩
theorem tp_lst {a : Addr} {ds : List PyData} {xs : List V} (h : At p H a (.lst xs)) (r : TpAll C p H ds xs) : Tp C p H (.list ds) (.ref a) := by
  simp only [Tp]
  exact ⟨a, xs, rfl, h.1, h.2, r⟩
theorem tp_tup' {v : V} {ds : List PyData} (h : Tp C p H (.tuple ds) v) : ∃ a xs, v = .ref a ∧ At p H a (.tup xs) ∧ TpAll C p H ds xs := by
  simp only [Tp] at h
  obtain ⟨a, xs, e, n, ha, r⟩ := h
  exact ⟨a, xs, e, ⟨n, ha⟩, r⟩
theorem tp_int' {v : V} {i : Int} (h : Tp C p H (.int i) v) : v = .int i := by simpa only [Tp] using h
theorem tp_str' {v : V} {i : Str} (h : Tp C p H (.str i) v) : v = .str i := by simpa only [Tp] using h

/-! ### kinds -/
def isI : PyData → Bool | .int _ => true | .bool _ => true | _ => false
def isB : PyData → Bool | .bool _ => true | _ => false
def isT : PyData → Bool | .tuple _ => true | _ => false
def isL : PyData → Bool | .list _ => true | _ => false
def isS : PyData → Bool | .str _ => true | _ => false
/-- an integer (no flag) within bounds -/
def inI (lo hi : Int) : PyData → Bool | .int i => decide (lo ≤ i) && decide (i ≤ hi) | _ => false
def isInt : PyData → Bool | .int _ => true | _ => false
theorem Tp.ty (W : WebTy K C) (d : PyData) (v : V) (h : Tp C p H d v) : ∃ t, TyX K H v t ∧ PySem.W.kitOne K t (.type "int") = some (isI d) ∧ PySem.W.kitOne K t (.type "bool") = some (isB d) ∧ PySem.W.kitOne K t (.type "tuple") = some (isT d) ∧
    PySem.W.kitOne K t (.type "list") = some (isL d) ∧ PySem.W.kitOne K t (.type "str") = some (isS d) := by
  cases d with
  | none =>
    simp only [Tp] at h
    subst h
    exact ⟨_, .base .non, kit_ty (show kitB "NoneType" "int" = some false from by decide +kernel), kit_ty (show kitB "NoneType" "bool" = some false from by decide +kernel), kit_ty (show kitB "NoneType" "tuple" = some false from by decide +kernel), kit_ty (show kitB "NoneType" "list" = some false from by decide +kernel), kit_ty (show kitB "NoneType" "str" = some false from by decide +kernel)⟩
  | bool b =>
    simp only [Tp] at h
    subst h
    exact ⟨_, .base (.bl b), kit_ty (show kitB "bool" "int" = some true from by decide +kernel), kit_ty (show kitB "bool" "bool" = some true from by decide +kernel), kit_ty (show kitB "bool" "tuple" = some false from by decide +kernel), kit_ty (show kitB "bool" "list" = some false from by decide +kernel), kit_ty (show kitB "bool" "str" = some false from by decide +kernel)⟩
  | int i =>
    simp only [Tp] at h
    subst h
    exact ⟨_, .base (.int i), kit_ty (show kitB "int" "int" = some true from by decide +kernel), kit_ty (show kitB "int" "bool" = some false from by decide +kernel), kit_ty (show kitB "int" "tuple" = some false from by decide +kernel), kit_ty (show kitB "int" "list" = some false from by decide +kernel), kit_ty (show kitB "int" "str" = some false from by decide +kernel)⟩
  | str s =>
    simp only [Tp] at h
    subst h
    exact ⟨_, .base (.str s), kit_ty (show kitB "str" "int" = some false from by decide +kernel), kit_ty (show kitB "str" "bool" = some false from by decide +kernel), kit_ty (show kitB "str" "tuple" = some false from by decide +kernel), kit_ty (show kitB "str" "list" = some false from by decide +kernel), kit_ty (show kitB "str" "str" = some true from by decide +kernel)⟩
  | list ds =>
    simp only [Tp] at h
    obtain ⟨a, xs, rfl, n, ha, r⟩ := h
    exact ⟨_, .base (.lst ha), kit_ty (show kitB "list" "int" = some false from by decide +kernel), kit_ty (show kitB "list" "bool" = some false from by decide +kernel), kit_ty (show kitB "list" "tuple" = some false from by decide +kernel), kit_ty (show kitB "list" "list" = some true from by decide +kernel), kit_ty (show kitB "list" "str" = some false from by decide +kernel)⟩
  | tuple ds =>
    simp only [Tp] at h
    obtain ⟨a, xs, rfl, n, ha, r⟩ := h
    exact ⟨_, .base (.tup ha), kit_ty (show kitB "tuple" "int" = some false from by decide +kernel), kit_ty (show kitB "tuple" "bool" = some false from by decide +kernel), kit_ty (show kitB "tuple" "tuple" = some true from by decide +kernel), kit_ty (show kitB "tuple" "list" = some false from by decide +kernel), kit_ty (show kitB "tuple" "str" = some false from by decide +kernel)⟩
  | dict kvs =>
    simp only [Tp] at h
    obtain ⟨a, rfl, n, ha | ⟨dx, fs, ha⟩⟩ := h
    · exact ⟨_, .base (.dK ha), kit_ty (show kitB "dict" "int" = some false from by decide +kernel), kit_ty (show kitB "dict" "bool" = some false from by decide +kernel), kit_ty (show kitB "dict" "tuple" = some false from by decide +kernel), kit_ty (show kitB "dict" "list" = some false from by decide +kernel), kit_ty (show kitB "dict" "str" = some false from by decide +kernel)⟩
    · exact ⟨_, .base (.ins ha W.cl W.ca W.cg W.ct W.co), W.ki, W.kb, W.kt, W.kl, W.ks⟩
theorem tp_isI (W : WebTy K C) {d : PyData} {v : V} {Q : VK} (h : Tp C p H d v) (q : Q (.bl (isI d)) H) : rIsi K [v, .ty "int"] H Q := by
  obtain ⟨t, ty, k, _⟩ := h.ty W
  exact ⟨v, _, t, _, _, rfl, .ty _, ty, k, q⟩
theorem tp_isB (W : WebTy K C) {d : PyData} {v : V} {Q : VK} (h : Tp C p H d v) (q : Q (.bl (isB d)) H) : rIsi K [v, .ty "bool"] H Q := by
  obtain ⟨t, ty, _, k, _⟩ := h.ty W
  exact ⟨v, _, t, _, _, rfl, .ty _, ty, k, q⟩
theorem tp_isT (W : WebTy K C) {d : PyData} {v : V} {Q : VK} (h : Tp C p H d v) (q : Q (.bl (isT d)) H) : rIsi K [v, .ty "tuple"] H Q := by
  obtain ⟨t, ty, _, _, k, _⟩ := h.ty W
  exact ⟨v, _, t, _, _, rfl, .ty _, ty, k, q⟩
theorem tp_isL (W : WebTy K C) {d : PyData} {v : V} {Q : VK} (h : Tp C p H d v) (q : Q (.bl (isL d)) H) : rIsi K [v, .ty "list"] H Q := by
  obtain ⟨t, ty, _, _, _, k, _⟩ := h.ty W
  exact ⟨v, _, t, _, _, rfl, .ty _, ty, k, q⟩
theorem tp_isS (W : WebTy K C) {d : PyData} {v : V} {Q : VK} (h : Tp C p H d v) (q : Q (.bl (isS d)) H) : rIsi K [v, .ty "str"] H Q := by
  obtain ⟨t, ty, _, _, _, _, k⟩ := h.ty W
  exact ⟨v, _, t, _, _, rfl, .ty _, ty, k, q⟩
end
theorem rd_mko {C : Addr} {sp : Sp} {dvs : List V} {ta : TA} {σ : L2.St} {H : Hp} {Q : XK} (h : ta σ H fun vs H1 => vs.length ≤ 1000 ∧ ∀ a, H1 a = none → sp (.ref a :: (vs ++ dvs)) (upd H1 a (exo a C none))
  (fun v H2 => v = .non ∧ ∃ (d : Addr) (fs : List (Str × V)), H2 a = some (exo a C (some d)) ∧ H2 d = some (exd d fs) ∧ H1 d = none ∧ Q (.ref C) (some d) (upd (del H2 a) d (.xd fs))) (fun _ _ _ => False)) : tMkO C sp dvs ta σ H Q := h
end Mw

/-! MR5 -/
/-! sorted(d) of a dict with whole numbers as keys. -/
namespace L2
open PySem PySem.Spec PyProof.Rows
def rSortedD : List V → Hp → VK → Prop := fun vs H Q => ∃ (d : Addr) (kvs : List (Key × V)) (ns : List Int), vs = [.ref d] ∧ H d = some (.dK kvs) ∧ kvs.map (·.1) = ns.map Sum.inl ∧
  ∀ (ns' : List Int) (p : Addr), ns'.Perm ns → ns'.Pairwise (· ≤ ·) → H p = none → Q (.ref p) (upd H p (.lst (ns'.map V.int)))
theorem cr_sortedD {X : Cx} (hc : X.calm = true) : CallR X (.builtin "sorted") rSortedD := by
  intro pins s σ H vs us Q I r h
  obtain ⟨d, kvs, ns, rfl, hk, en, q⟩ := h
  rw [Vals.ref1 r]
  obtain ⟨z, lo, ws, rk, hd⟩ := (show ObjOk X.prog X.w H s.heap d (.dK kvs) from I.hok d _ hk)
  obtain ⟨ep, hat⟩ := hd.dictAt
  have hl : kvs.length = ws.length := Paired.length rk
  refine Calls.call_function_entry kind_sorted plain_sorted entry_sorted (args_sorted1 _) ?_
  unfold Builtin.«sorted»
  refine wpAny_bind (m := checkCount "sorted" 1 1 _) (wpAny_pure ?_)
  refine wpAny_bind (PySem.W.kdu_collect (PySem.W.kdl_dict (knd := mixKind X.prog X.w) (kvs := ws) (ep := ep) lo) (I.ok.hd hc) hat (by rw [← hl]; exact z) fun h' tk acc kp hacc => ?_)
  have el : acc.toList.length = kvs.length := by rw [Array.length_toList, hacc.1, hl]
  have hns : ns.length = kvs.length := by
    have e := congrArg List.length en
    rw [List.length_map, List.length_map] at e
    exact e.symm
  have rv : Vals (ns.map V.int) acc.toList := by
    refine vals_of_at (by rw [List.length_map, el, hns]) fun j x w h1 h2 => ?_
    obtain ⟨k, y, hky, hi⟩ := hacc.2 j w (by rw [← Array.getElem?_toList]; exact h2)
    have e1 : (kvs.map (·.1))[j]? = some k := by rw [KV.keys rk, List.getElem?_map, hky] <;> rfl
    rw [en, List.getElem?_map] at e1
    rw [List.getElem?_map] at h1
    cases e2 : ns[j]? with
    | none =>
      rw [e2] at h1
      cases h1
    | some n =>
      rw [e2] at h1 e1
      cases h1
      have e3 : k = Sum.inl n := (Option.some.inj e1).symm
      have e4 : RelV (kV k) w := keyIs_rel hi
      rw [e3] at e4
      exact e4
  have hi := rv.ints
  have hz : acc.toList.length ≤ sizeLine := by rw [el]; exact z
  refine wpAny_bind (wpAny_newList ?_ hz)
  have hoL : (h'.push (seqObj "list" acc.toList.toArray 0)).get? h'.objs.size = some (seqObj "list" acc.toList.toArray 0) := Heap.get?_push_size _ rfl
  show wpAny _ _ _ _ _ { s with heap := h'.push (seqObj "list" acc.toList.toArray 0), toks := tk }
  refine wpAny_bind (wpAny_holding (wpAny_call_entry slot_list_sort ⟨_, hoL, rfl⟩ entry_list_sort (SrtO.list_sort_ord SrtO.swo_int hoL hz (fun h2 => SrtO.ints_sortable hi h2) fun out h1 h2 => ⟨_, rfl, ?_⟩) (args_list_sort _)))
  refine wpAny_pure ⟨_, rfl, ?_⟩
  obtain ⟨k1, k2, k3⟩ := SrtO.ints_out hi h1 h2
  obtain ⟨e, he⟩ := PyProof.Rows.sortedHeap_at (out := out.toArray) hoL
  have up : ∀ b o, h'.get? b = some o → (sortedHeap (h'.push (seqObj "list" acc.toList.toArray 0)) h'.objs.size acc.toList out.toArray).get? b = some o := fun b o hb => by
    have hlt : b < h'.objs.size := Heap.lt_size hb
    rw [PyProof.Rows.sortedHeap_old (Nat.ne_of_lt hlt) (by rw [size_push']; exact Nat.lt_succ_of_lt hlt)]
    exact Heap.get?_push_of_some _ hb
  have I1 : Inv X pins σ H { s with heap := h', toks := tk } := I.kept kp
  refine ⟨.ref h'.objs.size, upd H h'.objs.size (.lst ((out.map SrtO.iv).map V.int)), I1.laid (t' := tk) up (Nat.le_refl _) ⟨?_, out, e, vals_of_ints k1, he⟩, rfl, q _ _ k2 k3 (I1.hok.fresh (Nat.le_refl _))⟩
  rw [List.length_map, k2.length_eq, hns]
  exact z
end L2

/-! MR6 -/
/-! list(d.keys()) of a dict with pairs as keys. -/
namespace L2
open PySem PySem.Spec PyProof.Rows PySem.W
theorem lk_src {prog : Program} {w : World} {r d : Addr} {o : Obj} {es : Array DictEntry} {ep : Nat} (hx : o.ExactDict) (hd : o.data = .dict es ep) :
    KdlSrc prog w "dict_keys" r d es.size (fun i v => ∃ en : DictEntry, es[i]? = some en ∧ v = en.key) (fun h => KdlKeysView h r d ∧ h.get? d = some o) where
  type := fun _ hm => hm.1.typeIs
  there := fun _ hm => ⟨let ⟨_, ho, _⟩ := hm.1; Heap.lt_size ho, Heap.lt_size hm.2⟩
  keep := fun _ _ hm hk => ⟨let ⟨q, hq, x⟩ := hm.1; ⟨q, hk r (.inl rfl) q hq, x⟩, hk d (.inr rfl) _ hm.2⟩
  notList := by decide
  notTuple := by decide
  hint := fun _ _ _ _ hm hq => kdl_hint_keys hm.1.typeIs hq
  iter := fun _ s hh hm => ⟨_, _, (fun _ _ hq => wpAny_pyIter_keys_raw hm.1 ⟨o, hm.2, hx, hd⟩ hq), walks_raw hh _ d (Nat.ne_of_lt (Heap.lt_size hm.2)) hd, ⟨⟨_, Heap.get?_push_size _ rfl, rfl, rfl⟩, Heap.get?_push_of_some _ hm.2⟩⟩
section
variable {X : Cx}
def tListKeysT (te : TE) : TE := fun σ H Q => te σ H fun x H1 => ∃ (d : Addr) (kvs : List (List Key × V)), x = .ref d ∧ H1 d = some (.dT kvs) ∧ ∀ (p : Addr) (bs : List Addr), H1 p = none → IsKeys H1 kvs bs → Q (.ref p) (upd H1 p (.lst (bs.map V.ref)))
theorem pe_listKeysT {e : Expr} {te : TE} {p pos apos cpos : Pos} (hc : X.calm = true) (he : PE X e te) (hg : Gl X "list") (hm : X.mg "list" = none) (hbase : attributeBase e "keys" X.env (eval e X.env) = eval e X.env := by rfl) (hline : (apos.endLine == cpos.line) = true := by rfl)
    (hs : starEach [Expr.Call (.Attribute e "keys" apos) [] [] cpos] X.env = (false, eval (.Call (.Attribute e "keys" apos) [] [] cpos) X.env) :: starEach [] X.env := by rfl) :
    PE X (.Call (.Name "list" p) [.Call (.Attribute e "keys" apos) [] [] cpos] [] pos) (tListKeysT te) := by
  refine ⟨fun pins s σ H Q I hq => ?_⟩
  refine wpAny_Call_Name_kw (ld_blt I hg hm boot_list ?_)
  refine PyProof.Rows.callWith_type1 ?_ hs rfl
  rw [hs]
  show wpAny _ _ (spliced ((false, eval (.Call (.Attribute e "keys" apos) [] [] cpos) X.env) :: backTo pos (starEach [] X.env))) _ _ s
  refine Calls.spliced_cons ?_
  refine wpAny_Call_method (T := "dict") (id := "dict.keys") hbase rfl hline F.plainAttrs_dict F.slot_dict_keys F.type_dict_keys (thn (he.run pins s σ H _ I hq) fun u s1 ⟨x, H1, I1, rx, d, kvs, ex, hd, q⟩ => ?_)
  subst ex
  obtain rfl : u = Value.ref d := rx
  obtain ⟨z, lo, ks, pr, o, es, ep, ho, hx, hdt, hen, hn⟩ := dt_of I1.hok hd
  have l1 : es.size = ks.length := size_of_entries hen
  have l2 : kvs.length = ks.length := Paired.length pr
  have raw : s1.heap.DictRaw d es ep := ⟨o, ho, hx, hdt⟩
  have I2 : Inv X pins σ H1 { s1 with heap := s1.heap.push { cls := .type "dict_keys", data := .fields #[.ref d] } } := I1.kept (t' := s1.toks) fun b ob q => Heap.get?_push_of_some _ q
  refine ⟨raw.typeIs, fun b eb => ⟨o, by cases eb; exact ho, hx.2.1⟩, ?_⟩
  show wpAny _ _ (callWith cpos (.builtin "dict.keys") [.ref d] [] []) _ X.xe s1
  refine method_meetsIn F.slot_dict_keys F.entry_dict_keys rfl (PySem.evalArgs_none ⟨rfl, raw.typeIs, F.args_dict_keys_1 _, _, meets_dict_keys_raw d lo, ⟨es, ep, raw⟩, ?_⟩)
  refine Calls.spliced_nil ?_
  refine kdl_call (lk_src hx hdt) (I1.ok.hd hc) ⟨⟨_, Heap.get?_push_size _ rfl, rfl, rfl⟩, Heap.get?_push_of_some _ ho⟩ (by omega) fun h' tk acc' c' kp e it => ?_
  have ea : acc'.toList = ks.map fun x => Value.ref x.2.1 := by
    have hl : acc'.toList.length = ks.length := by rw [Array.length_toList, it.1]; exact l1
    apply List.ext_getElem?
    intro j
    rw [List.getElem?_map]
    cases hj : acc'.toList[j]? with
    | none =>
      have h1 := List.getElem?_eq_none_iff.mp hj
      rw [List.getElem?_eq_none (by omega)]
      rfl
    | some v =>
      obtain ⟨en, hen2, hv⟩ := it.2 j v (by rw [← Array.getElem?_toList]; exact hj)
      have qe := entry_at hen j
      rw [hen2] at qe
      cases hb : ks[j]? with
      | none =>
        rw [hb] at qe
        exact nomatch (show some en = none from qe)
      | some b =>
        rw [hb] at qe
        have e2 : en = entryOfKey (tupleKind (mixKind X.prog X.w)) b := Option.some.inj qe
        rw [hv, e2]
        rfl
  have eb : acc'.toList = (ks.map fun x => x.2.1).map Value.ref := by
    rw [ea, List.map_map]
    rfl
  have rv : Vals ((ks.map fun x => x.2.1).map V.ref) acc'.toList := by
    rw [eb]
    exact vals_refs _
  have hz : ((ks.map fun x => x.2.1).map V.ref).length ≤ sizeLine := by
    rw [List.length_map, List.length_map]
    omega
  refine ⟨.ref _, _, I2.laid (t' := tk) (o := .lst ((ks.map fun x => x.2.1).map V.ref)) kp (Nat.le_refl _) ⟨hz, acc'.toList, c', rv, by rw [Array.toArray_toList]; exact e⟩, rfl, q _ _ (I2.hok.fresh (Nat.le_refl _)) (isKeys_of pr)⟩
end
end L2

/-! MR8 -/
/-! list(d.keys()) of a dict with whole numbers as keys. -/
namespace L2
open PySem PySem.Spec PyProof.Rows PySem.W
section
variable {X : Cx}
def tListKeysK (te : TE) : TE := fun σ H Q => te σ H fun x H1 => ∃ (d : Addr) (kvs : List (Key × V)) (ns : List Int), x = .ref d ∧ H1 d = some (.dK kvs) ∧ kvs.map (·.1) = ns.map Sum.inl ∧ ∀ (p : Addr), H1 p = none → Q (.ref p) (upd H1 p (.lst (ns.map V.int)))
theorem pe_listKeysK {e : Expr} {te : TE} {p pos apos cpos : Pos} (hc : X.calm = true) (he : PE X e te) (hg : Gl X "list") (hm : X.mg "list" = none) (hbase : attributeBase e "keys" X.env (eval e X.env) = eval e X.env := by rfl) (hline : (apos.endLine == cpos.line) = true := by rfl)
    (hs : starEach [Expr.Call (.Attribute e "keys" apos) [] [] cpos] X.env = (false, eval (.Call (.Attribute e "keys" apos) [] [] cpos) X.env) :: starEach [] X.env := by rfl) :
    PE X (.Call (.Name "list" p) [.Call (.Attribute e "keys" apos) [] [] cpos] [] pos) (tListKeysK te) := by
  refine ⟨fun pins s σ H Q I hq => ?_⟩
  refine wpAny_Call_Name_kw (ld_blt I hg hm boot_list ?_)
  refine PyProof.Rows.callWith_type1 ?_ hs rfl
  rw [hs]
  show wpAny _ _ (spliced ((false, eval (.Call (.Attribute e "keys" apos) [] [] cpos) X.env) :: backTo pos (starEach [] X.env))) _ _ s
  refine Calls.spliced_cons ?_
  refine wpAny_Call_method (T := "dict") (id := "dict.keys") hbase rfl hline F.plainAttrs_dict F.slot_dict_keys F.type_dict_keys (thn (he.run pins s σ H _ I hq) fun u s1 ⟨x, H1, I1, rx, d, kvs, ns, ex, hd, en, q⟩ => ?_)
  subst ex
  obtain rfl : u = Value.ref d := rx
  obtain ⟨z, lo, ws, rk, hd'⟩ := dk_of I1.hok hd
  obtain ⟨es, ep, raw, hsz, hent⟩ := hd'.raw
  obtain ⟨o, ho, hx, hdt⟩ := id raw
  have l2 : kvs.length = ws.length := Paired.length rk
  have hns : ns.length = kvs.length := by
    have e := congrArg List.length en
    rw [List.length_map, List.length_map] at e
    exact e.symm
  have I2 : Inv X pins σ H1 { s1 with heap := s1.heap.push { cls := .type "dict_keys", data := .fields #[.ref d] } } := I1.kept (t' := s1.toks) fun b ob q => Heap.get?_push_of_some _ q
  refine ⟨raw.typeIs, fun b eb => ⟨o, by cases eb; exact ho, hx.2.1⟩, ?_⟩
  show wpAny _ _ (callWith cpos (.builtin "dict.keys") [.ref d] [] []) _ X.xe s1
  refine method_meetsIn F.slot_dict_keys F.entry_dict_keys rfl (PySem.evalArgs_none ⟨rfl, raw.typeIs, F.args_dict_keys_1 _, _, meets_dict_keys_raw d lo, ⟨es, ep, raw⟩, ?_⟩)
  refine Calls.spliced_nil ?_
  refine kdl_call (lk_src hx hdt) (I1.ok.hd hc) ⟨⟨_, Heap.get?_push_size _ rfl, rfl, rfl⟩, Heap.get?_push_of_some _ ho⟩ (by omega) fun h' tk acc' c' kp e it => ?_
  have el : acc'.toList.length = kvs.length := by rw [Array.length_toList, it.1, hsz, l2]
  have rv : Vals (ns.map V.int) acc'.toList := by
    refine vals_of_at (by rw [List.length_map, el, hns]) fun j x w h1 h2 => ?_
    obtain ⟨ent, hen, hv⟩ := it.2 j w (by rw [← Array.getElem?_toList]; exact h2)
    obtain ⟨hj, ej⟩ := Array.getElem?_eq_some_iff.mp hen
    have hjw : j < ws.length := by omega
    have hwj : ws[j]? = some (ws[j].1, ws[j].2) := by simp [hjw]
    obtain ⟨hi, _⟩ := hent j hj ws[j].1 ws[j].2 hwj
    have e1 : (kvs.map (·.1))[j]? = some ws[j].1 := by rw [KV.keys rk, List.getElem?_map, hwj] <;> rfl
    rw [en, List.getElem?_map] at e1
    rw [List.getElem?_map] at h1
    cases e2 : ns[j]? with
    | none =>
      rw [e2] at h1
      cases h1
    | some n =>
      rw [e2] at h1 e1
      cases h1
      have e3 : ws[j].1 = Sum.inl n := (Option.some.inj e1).symm
      rw [ej] at hi
      have e4 : RelV (kV ws[j].1) ent.key := keyIs_rel hi
      rw [e3] at e4
      rw [hv]
      exact e4
  have hz : (ns.map V.int).length ≤ sizeLine := by
    rw [List.length_map]
    omega
  refine ⟨.ref _, _, I2.laid (t' := tk) (o := .lst (ns.map V.int)) kp (Nat.le_refl _) ⟨hz, acc'.toList, c', rv, by rw [Array.toArray_toList]; exact e⟩, rfl, q _ (I2.hok.fresh (Nat.le_refl _))⟩
end
end L2

/-! MR4 -/
/-! list(zip(s, t)) of two tuples: a new list of new pairs. -/
namespace L2
open PySem PySem.Spec PyProof.Rows RZ
theorem lz_len : typeLookup (.type "zip") "__len__" = pure none := am_miss_of_fast (by decide +kernel)
theorem lz_hint : typeLookup (.type "zip") "__length_hint__" = pure none := am_miss_of_fast (by decide +kernel)
section
variable {prog : Program} {w : World} {A : Around} {E : Value → Shared → Prop} {s : Shared}
variable {z TI TO T i1 i2 l1 l2 : Addr} {f : Bool} {oT : Obj} {k1 k2 : Nat} {xs ys : Array Value}
/-- the next pair while the last one is still there -/
theorem lz_item {x y : Value} {Q : Option Value → Shared → Prop} (D : ZipApart z TI TO i1 i2 l1 l2)
    (hz : IsZipHeld s.heap z TI TO T f)
    (hT : s.heap.get? T = some oT)
    (hTI : IsPair s.heap TI (.ref i1) (.ref i2)) (h1 : s.heap.IsTupleIter i1 l1 k1)
    (h2 : s.heap.IsTupleIter i2 l2 k2) (hl1 : s.heap.IsTuple l1 xs)
    (hl2 : s.heap.IsTuple l2 ys) (hx : xs[k1]? = some x)
    (hy : ys[k2]? = some y)
    (q : ∀ h', IsZipHeld h' z TI TO T true → h'.IsTupleIter i1 l1 (k1 + 1) → h'.IsTupleIter i2 l2 (k2 + 1) → IsPair h' s.heap.objs.size x y → h'.objs.size = s.heap.objs.size + 1 → (∀ c o, c ≠ z → c ≠ i1 → c ≠ i2 → s.heap.get? c = some o → h'.get? c = some o) → Q (some (.ref s.heap.objs.size)) { s with heap := h' }) :
    wpAny (model prog w) A (pyNext (.ref z)) Q E s := by
  have ty : s.TypeIs (.ref z) "zip" := ⟨_, hz, rfl⟩
  unfold pyNext
  refine wpAny_bind (wpAny_attempt (wpAny_callSpecial?_slot (name := Str.ofString "__next__") ty F.slot_zip_next (wpAny_call_entry F.slot_zip_next ty F.entry_zip_next ?_ (F.args_zip_next_1 _))))
  show wpAny _ _ (field (.ref z) 2 >>= _) _ _ _
  refine wpAny_bind (wpAny_field hz rfl (x := .bool false) rfl ?_)
  show wpAny _ _ (field (.ref z) 3 >>= _) _ _ _
  refine wpAny_bind (wpAny_field hz rfl (x := .ref TI) rfl (wpAny_bind (wpAny_seqItems hTI rfl ?_)))
  show wpAny _ _ (Builtin.SmallTypes.ownedTupleIsFree (.ref z) >>= _) _ _ _
  refine wpAny_bind (wpAny_tupleHeld_zip hz hT fun g1 z1 b1 => ?_)
  simp only [Bool.false_eq_true, if_false]
  refine wpAny_bind ?_
  rw [← Array.forIn_toList]
  simp only [List.forIn_cons, List.forIn_nil]
  refine wpAny_bind (wpAny_bind (wpAny_holding ?_))
  show wpAny _ _ (Builtin.SmallTypes.nextOf (.ref i1) >>= _) _ _ _
  refine wpAny_bind (nextOf_tuple_item (s := { s with heap := g1 }) (h1.extBut b1.extBut D.i1z) (hl1.extBut b1.extBut D.l1z) hx fun g2 i2' b2 => wpAny_pure (wpAny_pure ?_))
  refine wpAny_bind (wpAny_bind (wpAny_holding ?_))
  show wpAny _ _ (Builtin.SmallTypes.nextOf (.ref i2) >>= _) _ _ _
  refine wpAny_bind (nextOf_tuple_item (s := { s with heap := g2 }) ((h2.extBut b1.extBut D.i2z).extBut b2.extBut D.i12.symm) ((hl2.extBut b1.extBut D.l2z).extBut b2.extBut D.l2i1) hy fun g3 i3' b3 => wpAny_pure ?_)
  refine wpAny_pure (wpAny_pure ?_)
  show wpAny _ _ (newTuple [x, y] >>= _) _ _ _
  refine wpAny_bind (wpAny_newTuple ?_)
  have sz : g3.objs.size = s.heap.objs.size := by rw [b3.1, b2.1, b1.1]
  have z3 : IsZipHeld g3 z TI TO T true := b3.extBut _ _ D.i2z.symm (b2.extBut _ _ D.i1z.symm z1)
  have kp : ∀ c o, c ≠ z → c ≠ i1 → c ≠ i2 → s.heap.get? c = some o → g3.get? c = some o := fun c o c1 c2 c3 e => b3.extBut _ _ c3 (b2.extBut _ _ c2 (b1.extBut _ _ c1 e))
  have j1 : g3.IsTupleIter i1 l1 (k1 + 1) := i2'.extBut b3.extBut D.i12
  refine wpAny_pure ⟨_, rfl, wpAny_pure ?_⟩
  show Q (some (.ref g3.objs.size)) _
  have pr : IsPair (g3.push { cls := .type "tuple", data := .seq #[x, y] }) g3.objs.size x y := Heap.get?_push_size _ rfl
  have sz4 : (g3.push { cls := .type "tuple", data := .seq #[x, y] }).objs.size = g3.objs.size + 1 := Heap.size_push ..
  rw [sz] at pr sz4 ⊢
  exact q _ (Heap.get?_push_of_some _ z3) (j1.at fun o e => Heap.get?_push_of_some _ e) (i3'.at fun o e => Heap.get?_push_of_some _ e) pr sz4 fun c o c1 c2 c3 e => Heap.get?_push_of_some _ (kp c o c1 c2 c3 e)
/-- no next pair while the last one is still there -/
theorem lz_end {Q : Option Value → Shared → Prop} (hh : A.handled = none) (D : ZipApart z TI TO i1 i2 l1 l2)
    (hz : IsZipHeld s.heap z TI TO T f)
    (hT : s.heap.get? T = some oT)
    (hTI : IsPair s.heap TI (.ref i1) (.ref i2)) (h1 : s.heap.IsTupleIter i1 l1 k1)
    (h2 : s.heap.IsTupleIter i2 l2 k2) (hl1 : s.heap.IsTuple l1 xs)
    (hl2 : s.heap.IsTuple l2 ys) (he : xs[k1]? = none ∨ ys[k2]? = none)
    (q : ∀ h', (∀ c o, c ≠ z → c ≠ i1 → c ≠ i2 → s.heap.get? c = some o → h'.get? c = some o) → Q none { s with heap := h' }) :
    wpAny (model prog w) A (pyNext (.ref z)) Q E s := by
  have ty : s.TypeIs (.ref z) "zip" := ⟨_, hz, rfl⟩
  unfold pyNext
  refine wpAny_bind (wpAny_attempt (wpAny_callSpecial?_slot (name := Str.ofString "__next__") ty F.slot_zip_next (wpAny_call_entry F.slot_zip_next ty F.entry_zip_next ?_ (F.args_zip_next_1 _))))
  show wpAny _ _ (field (.ref z) 2 >>= _) _ _ _
  refine wpAny_bind (wpAny_field hz rfl (x := .bool false) rfl ?_)
  show wpAny _ _ (field (.ref z) 3 >>= _) _ _ _
  refine wpAny_bind (wpAny_field hz rfl (x := .ref TI) rfl (wpAny_bind (wpAny_seqItems hTI rfl ?_)))
  show wpAny _ _ (Builtin.SmallTypes.ownedTupleIsFree (.ref z) >>= _) _ _ _
  refine wpAny_bind (wpAny_tupleHeld_zip hz hT fun g1 z1 b1 => ?_)
  simp only [Bool.false_eq_true, if_false]
  refine wpAny_bind ?_
  rw [← Array.forIn_toList]
  simp only [List.forIn_cons, List.forIn_nil]
  refine wpAny_bind (wpAny_bind (wpAny_holding ?_))
  show wpAny _ _ (Builtin.SmallTypes.nextOf (.ref i1) >>= _) _ _ _
  cases hx : xs[k1]? with
  | none =>
    refine wpAny_bind (nextOf_tuple_end (s := { s with heap := g1 }) hh (h1.extBut b1.extBut D.i1z) (hl1.extBut b1.extBut D.l1z) hx fun g2 e b2 ho => ?_)
    obtain ⟨o, ho, hc⟩ := ho
    refine wpAny_bind (wpAny_isInstance (T := "StopIteration") (b := true) ⟨o, ho, hc⟩ isSubtype_stop ?_)
    exact wpAny_pure (q _ fun c o c1 c2 _ x => b2 _ _ c2 (b1.extBut _ _ c1 x))
  | some x =>
    have hy : ys[k2]? = none := by
      rcases he with h | h
      · rw [hx] at h
        cases h
      · exact h
    refine wpAny_bind (nextOf_tuple_item (s := { s with heap := g1 }) (h1.extBut b1.extBut D.i1z) (hl1.extBut b1.extBut D.l1z) hx fun g2 i2' b2 => wpAny_pure (wpAny_pure ?_))
    refine wpAny_bind (wpAny_bind (wpAny_holding ?_))
    show wpAny _ _ (Builtin.SmallTypes.nextOf (.ref i2) >>= _) _ _ _
    refine wpAny_bind (nextOf_tuple_end (s := { s with heap := g2 }) hh ((h2.extBut b1.extBut D.i2z).extBut b2.extBut D.i12.symm) ((hl2.extBut b1.extBut D.l2z).extBut b2.extBut D.l2i1) hy fun g3 e b3 ho => ?_)
    obtain ⟨o, ho, hc⟩ := ho
    refine wpAny_bind (wpAny_isInstance (T := "StopIteration") (b := true) ⟨o, ho, hc⟩ isSubtype_stop ?_)
    exact wpAny_pure (q _ fun c o c1 c2 c3 x => b3 _ _ c3 (b2.extBut _ _ c2 (b1.extBut _ _ c1 x)))
end
/-! ### the loop -/
section
variable {X : Cx} {pins : List (Addr × Obj)} {σ : L2.St} {l1 l2 z TI TO i1 i2 D : Addr} {xs ys : List V} {H1 : Hp}
/-- behind i turns: ts the pairs that stand in the list at D -/
structure LzInv (X : Cx) (pins : List (Addr × Obj)) (σ : L2.St) (l1 l2 z TI TO i1 i2 D : Addr) (xs ys : List V) (H1 : Hp) (ts : List Addr) (s : Shared) (H : Hp) : Prop where
  I : Inv X pins σ H s
  same : Same H1 H
  fp : ∀ c ∈ [z, TI, TO, i1, i2], FpOk X pins H c
  zip : (ts = [] ∧ IsZip s.heap z TI TO .none ∧ ∃ a b, IsPair s.heap TO a b) ∨ ∃ T f oT, IsZipHeld s.heap z TI TO T f ∧ T ≠ z ∧ T ≠ TI ∧ T ≠ TO ∧ T ≠ i1 ∧ T ≠ i2 ∧ T ≠ D ∧ s.heap.get? T = some oT
  pTI : IsPair s.heap TI (.ref i1) (.ref i2)
  t1 : s.heap.IsTupleIter i1 l1 ts.length
  t2 : s.heap.IsTupleIter i2 l2 ts.length
  lst : H D = some (.lst (ts.map V.ref))
  lt : ∀ c ∈ [z, TI, TO, i1, i2], c < s.heap.objs.size
  few : ts.length ≤ xs.length ∧ ts.length ≤ ys.length
  prs : ∀ (j : Nat) (t : Addr) (x y : V), ts[j]? = some t → xs[j]? = some x → ys[j]? = some y → H t = some (.tup [x, y])
theorem lz_loop {A : Around} {R : Result → Shared → Prop} {res : Value} (hh : A.in1.handled = none) (Dz : ZipApart z TI TO i1 i2 l1 l2) (h1 : H1 l1 = some (.tup xs)) (h2 : H1 l2 = some (.tup ys)) (nD : H1 D = none)
    (hR : ∀ (ts : List Addr) (s' : Shared) (H' : Hp), Inv X pins σ H' s' → Same H1 H' → H' D = some (.lst (ts.map V.ref)) → ts.length = min xs.length ys.length → (∀ (j : Nat) (t : Addr) (x y : V), ts[j]? = some t → xs[j]? = some x → ys[j]? = some y → H' t = some (.tup [x, y])) → R (.ok (.ret res)) s') :
    ∀ (k : Nat) (ts : List Addr) (s : Shared) (H : Hp), min xs.length ys.length - ts.length = k → LzInv X pins σ l1 l2 z TI TO i1 i2 D xs ys H1 ts s H → codeAny (model X.prog X.w) A (.builtin "list.extend.loop" ⟨[.ref D, .ref z, res], []⟩) R s := by
  intro k
  induction k with
  | zero =>
    intro ts s H hk J
    refine codeAny_builtin F.entry_extend_loop ?_
    rw [Around.under_plainId F.plain_extend_loop _]
    show wpAny _ A.in1 (pyNext (.ref z) >>= _) _ _ s
    have f := J.few
    have hn : ts.length = min xs.length ys.length := by omega
    obtain ⟨its, rv, p, _⟩ := J.I.tuple (SqT.of (J.same _ _ h1))
    obtain ⟨its2, rv2, p2, _⟩ := J.I.tuple (SqT.of (J.same _ _ h2))
    have e1 := rv.length
    have e2 := rv2.length
    have he : its.toArray[ts.length]? = none ∨ its2.toArray[ts.length]? = none := by
      by_cases c : xs.length ≤ ys.length
      · exact .inl (by simp; omega)
      · exact .inr (by simp; omega)
    have fin : ∀ h', (∀ c o, c ≠ z → c ≠ TO → c ≠ i1 → c ≠ i2 → s.heap.get? c = some o → h'.get? c = some o) → R (.ok (.ret res)) { s with heap := h' } := fun h' kp =>
      hR ts _ H (J.I.turnedL (t' := s.toks) (ch := [z, TI, TO, i1, i2]) (fun c o hb q => kp c o (fun e => hb (by simp [e])) (fun e => hb (by simp [e])) (fun e => hb (by simp [e])) (fun e => hb (by simp [e])) q) J.fp) J.same J.lst hn J.prs
    rcases J.zip with ⟨_, hz, a, b, hTO⟩ | ⟨T, f, oT, hz, _, _, _, _, _, _, hT⟩
    · exact wpAny_bind (pyNext_zipT_end hh Dz hz J.pTI hTO J.t1 J.t2 p p2 he fun h' kp => wpAny_pure (fin h' kp))
    · exact wpAny_bind (lz_end hh Dz hz hT J.pTI J.t1 J.t2 p p2 he fun h' kp => wpAny_pure (fin h' fun c o c1 _ c3 c4 e => kp c o c1 c3 c4 e))
  | succ k ih =>
    intro ts s H hk J
    refine codeAny_builtin F.entry_extend_loop ?_
    rw [Around.under_plainId F.plain_extend_loop _]
    show wpAny _ A.in1 (pyNext (.ref z) >>= _) _ _ s
    obtain ⟨its, rv, p, _⟩ := J.I.tuple (SqT.of (J.same _ _ h1))
    obtain ⟨its2, rv2, p2, _⟩ := J.I.tuple (SqT.of (J.same _ _ h2))
    have hx : xs[ts.length]? = some (xs[ts.length]'(by omega)) := by simp
    have hy : ys[ts.length]? = some (ys[ts.length]'(by omega)) := by simp
    generalize xs[ts.length]'(by omega) = x at hx
    generalize ys[ts.length]'(by omega) = y at hy
    obtain ⟨u, hu, ru⟩ := rv.get hx
    obtain ⟨u2, hu2, ru2⟩ := rv2.get hy
    have push : ∀ h', (IsZipHeld h' z TI TO s.heap.objs.size false ∨ IsZipHeld h' z TI TO s.heap.objs.size true ∨ ∃ T f oT, IsZipHeld h' z TI TO T f ∧ T ≠ z ∧ T ≠ TI ∧ T ≠ TO ∧ T ≠ i1 ∧ T ≠ i2 ∧ T ≠ D ∧ h'.get? T = some oT) → h'.IsTupleIter i1 l1 (ts.length + 1) → h'.IsTupleIter i2 l2 (ts.length + 1) → IsPair h' s.heap.objs.size u u2 →
        (∀ c o, c ≠ z → c ≠ TO → c ≠ i1 → c ≠ i2 → s.heap.get? c = some o → h'.get? c = some o) →
        wpAny (model X.prog X.w) A.in1 (updateSeq D (·.push (.ref s.heap.objs.size)) >>= fun _ => again (.builtin "list.extend.loop" ⟨[.ref D, .ref z, res], []⟩))
          (fun fin s' => match fin with | .done f => R (.ok f) s' | .again c' => c'.quiet = true ∧ codeAny (model X.prog X.w) A c' R s') (fun e s' => R (.error e) s') { s with heap := h' } := by
      intro h' hzip a3 a4 a5 kp
      have nf : H s.heap.objs.size = none := J.I.hok.fresh (Nat.le_refl _)
      have new : ObjOk X.prog X.w (upd H s.heap.objs.size (.tup [x, y])) h' s.heap.objs.size (.tup [x, y]) := ⟨by show 2 ≤ sizeLine; decide, [u, u2], .cons ru (.cons ru2 .nil), ⟨_, a5, rfl, _, rfl⟩⟩
      have I1 : Inv X pins σ (upd H s.heap.objs.size (.tup [x, y])) { s with heap := h' } :=
        J.I.turnedNew (t' := s.toks) (ch := [z, TI, TO, i1, i2]) (fun c o hb q => kp c o (fun e => hb (by simp [e])) (fun e => hb (by simp [e])) (fun e => hb (by simp [e])) (fun e => hb (by simp [e])) q) J.fp (Nat.le_refl _) new
      have nTD : s.heap.objs.size ≠ D := (ne_of_none J.lst nf).symm
      have hD1 : (upd H s.heap.objs.size (.tup [x, y])) D = some (.lst (ts.map V.ref)) := (upd_ne nTD.symm).trans J.lst
      obtain ⟨hz, its3, n3, r3, l3, e3⟩ := I1.lstM hD1
      have len : (ts.map V.ref).length = ts.length := List.length_map _
      have zx : xs.length ≤ sizeLine := by
        obtain ⟨_, _, _, q⟩ := J.I.tuple (SqT.of (J.same _ _ h1))
        exact q
      have small : ts.length + 1 ≤ sizeLine := by omega
      have nc : ∀ c ∈ [z, TI, TO, i1, i2], c ≠ D := fun c hc => (ne_of_none J.lst (J.fp c hc).1).symm
      have oth : ∀ b o, b ≠ D → h'.get? b = some o → (h'.update D (Obj.mapSeq (·.push (.ref s.heap.objs.size)))).get? b = some o := fun b o hb e => (Heap.get?_update_other _ _ hb.symm).trans e
      have szT : s.heap.objs.size < h'.objs.size := Heap.lt_size a5
      refine wpAny_bind (wpAny_updateSeq e3 rfl ?_ (by rw [List.size_toArray, ← l3, len]; omega) (by show (its3.toArray.push _).size ≤ sizeLine + 1; rw [Array.size_push, List.size_toArray, ← l3, len]; omega))
      refine wpAny_pure ⟨plainId_quiet F.plain_extend_loop _, ih (ts ++ [s.heap.objs.size]) _ (upd (upd H s.heap.objs.size (.tup [x, y])) D (.lst ((ts ++ [s.heap.objs.size]).map V.ref))) (by rw [List.length_append]; simp; omega) ?_⟩
      have rT : Vals ((ts ++ [s.heap.objs.size]).map V.ref) (its3 ++ [Value.ref s.heap.objs.size]) := by
        rw [List.map_append]
        exact r3.append (.cons rfl .nil)
      refine {
        I := I1.lset (t' := s.toks) (its' := its3 ++ [Value.ref s.heap.objs.size]) hD1 e3 (by simp) rT (by rw [List.length_map, List.length_append]; simpa using small)
        same := fun b o e => ?_
        fp := fun c hc => ?_
        zip := .inr ?_
        pTI := oth _ _ (nc TI (by simp)) (kp _ _ Dz.TIz Dz.TITO Dz.TIi1 Dz.TIi2 J.pTI)
        t1 := ?_
        t2 := ?_
        lst := upd_same
        lt := fun c hc => ?_
        few := by rw [List.length_append]; simp; omega
        prs := fun j t x' y' ht hx' hy' => ?_ }
      · have e1 := J.same b o e
        rw [upd_ne (ne_of_none e nD), upd_ne (ne_of_none e1 nf)]
        exact e1
      · have q := J.fp c hc
        refine ⟨?_, q.2⟩
        rw [upd_ne (nc c hc), upd_ne (Nat.ne_of_lt (J.lt c hc))]
        exact q.1
      · have ht : (h'.update D (Obj.mapSeq (·.push (.ref s.heap.objs.size)))).get? s.heap.objs.size = some _ := oth _ _ nTD a5
        have ne : ∀ c ∈ [z, TI, TO, i1, i2], s.heap.objs.size ≠ c := fun c hc => (Nat.ne_of_lt (J.lt c hc)).symm
        rcases hzip with q | q | ⟨T, f, oT, q, n1, n2, n3, n4, n5, n6, hT⟩
        · exact ⟨_, _, _, oth _ _ (nc z (by simp)) q, ne z (by simp), ne TI (by simp), ne TO (by simp), ne i1 (by simp), ne i2 (by simp), nTD, ht⟩
        · exact ⟨_, _, _, oth _ _ (nc z (by simp)) q, ne z (by simp), ne TI (by simp), ne TO (by simp), ne i1 (by simp), ne i2 (by simp), nTD, ht⟩
        · exact ⟨T, f, oT, oth _ _ (nc z (by simp)) q, n1, n2, n3, n4, n5, n6, oth _ _ n6 hT⟩
      · rw [List.length_append]
        exact a3.at fun o e => oth _ o (nc i1 (by simp)) e
      · rw [List.length_append]
        exact a4.at fun o e => oth _ o (nc i2 (by simp)) e
      · have q := J.lt c hc
        show c < (h'.update D (Obj.mapSeq (·.push (.ref s.heap.objs.size)))).objs.size
        rw [Heap.size_update]
        exact Nat.lt_trans q szT
      · rw [List.getElem?_append] at ht
        by_cases hj : j < ts.length
        · rw [if_pos hj] at ht
          have q := J.prs j t x' y' ht hx' hy'
          rw [upd_ne (ne_of J.lst q (by intro z; cases z)).symm, upd_ne (ne_of_none q nf)]
          exact q
        · rw [if_neg hj] at ht
          have hj0 : j = ts.length := by
            have := (List.getElem?_eq_some_iff.mp ht).1
            simp at this
            omega
          subst hj0
          rw [hx] at hx'
          rw [hy] at hy'
          cases hx'
          cases hy'
          simp at ht
          subst ht
          rw [upd_ne nTD]
          exact upd_same
    rcases J.zip with ⟨_, hz, a, b, hTO⟩ | ⟨T, f, oT, hz, n1, n2, n3, n4, n5, n6, hT⟩
    · refine wpAny_bind (pyNext_zipT_item Dz hz J.pTI hTO J.t1 J.t2 p p2 (x := u) (y := u2) (by simpa using hu) (by simpa using hu2) fun h' a1 _ a3 a4 a5 _ kp => ?_)
      exact push h' (.inl a1) a3 a4 a5 kp
    · refine wpAny_bind (lz_item Dz hz hT J.pTI J.t1 J.t2 p p2 (x := u) (y := u2) (by simpa using hu) (by simpa using hu2) fun h' a1 a3 a4 a5 _ kp => ?_)
      exact push h' (.inr (.inr ⟨T, true, oT, a1, n1, n2, n3, n4, n5, n6, kp _ _ n1 n4 n5 hT⟩)) a3 a4 a5 fun c o c1 _ c3 c4 e => kp c o c1 c3 c4 e
end
/-! ### the whole expression -/
section
variable {X : Cx} {pins : List (Addr × Obj)} {σ : L2.St}
/-- a zip of the tuples at a and b, not begun -/
structure LzMade (X : Cx) (pins : List (Addr × Obj)) (σ : L2.St) (a b z TI TO i1 i2 : Addr) (H1 : Hp) (s : Shared) : Prop where
  I : Inv X pins σ H1 s
  ap : ZipApart z TI TO i1 i2 a b
  fp : ∀ c ∈ [z, TI, TO, i1, i2], FpOk X pins H1 c
  lt : ∀ c ∈ [z, TI, TO, i1, i2], c < s.heap.objs.size
  zip : IsZip s.heap z TI TO .none
  pTI : IsPair s.heap TI (.ref i1) (.ref i2)
  pTO : IsPair s.heap TO .none .none
  t1 : s.heap.IsTupleIter i1 a 0
  t2 : s.heap.IsTupleIter i2 b 0
def tListZip (ta : TA) : TE := fun σ H Q => ta σ H fun vs H1 => ∃ a b xs ys, vs = [.ref a, .ref b] ∧ H1 a = some (.tup xs) ∧ H1 b = some (.tup ys) ∧ ∀ (D : Addr) (ts : List Addr) (H' : Hp), Same H1 H' → H1 D = none → H' D = some (.lst (ts.map V.ref)) → ts.length = min xs.length ys.length →
  (∀ (j : Nat) (t : Addr) (x y : V), ts[j]? = some t → xs[j]? = some x → ys[j]? = some y → H' t = some (.tup [x, y])) → Q (.ref D) H'
theorem lz_zip {e e2 : Expr} {ta : TA} {p pos : Pos} {s : Shared} {H : Hp} {Q : List V → Hp → Prop} (hg : Gl X "zip") (hm : X.mg "zip" = none) (ha : PA X [e, e2] ta) (I : Inv X pins σ H s)
    (hs : starEach [e, e2] X.env = (false, eval e X.env) :: starEach [e2] X.env) (hpl : (backTo pos (starEach [e2] X.env)).any (·.1) = false)
    (hQ : ∀ vs H1, Q vs H1 → ∃ a b xs ys, vs = [.ref a, .ref b] ∧ H1 a = some (.tup xs) ∧ H1 b = some (.tup ys))
    (h : ta σ H Q) :
    wpAny (model X.prog X.w) X.A (eval (.Call (.Name "zip" p) [e, e2] [] pos) X.env) (fun v s' => ∃ a b z TI TO i1 i2 H1, v = .ref z ∧ LzMade X pins σ a b z TI TO i1 i2 H1 s' ∧ Q [.ref a, .ref b] H1) X.xe s := by
  refine Call_ (ld_blt I hg hm PyProof.Rows.boot_zip (PyProof.Rows.callWith_type1 (thn (ha.run pos pins s σ H _ I h) fun us s1 ⟨vs, H1, I1, r1, q⟩ => ?_) hs hpl))
  obtain ⟨a, b, xs, ys, ev, h1, h2⟩ := hQ vs H1 q
  subst ev
  cases r1 with
  | cons r rr =>
    cases rr with
    | cons r' rr =>
      cases rr
      cases r
      cases r'
      obtain ⟨its, _, p1, _⟩ := I1.tuple (SqT.of h1)
      obtain ⟨its2, _, p2, _⟩ := I1.tuple (SqT.of h2)
      obtain ⟨o1, ho1, _⟩ := id p1
      obtain ⟨o2, ho2, _⟩ := id p2
      refine call_zipT (show s1.heap.IsTuple a its.toArray from p1) (show s1.heap.IsTuple b its2.toArray from p2) fun h' hz hTI hTO t1 t2 hsz hk => ?_
      have ge : ∀ c ∈ [s1.heap.objs.size + 4, s1.heap.objs.size + 2, s1.heap.objs.size + 3, s1.heap.objs.size, s1.heap.objs.size + 1], s1.heap.objs.size ≤ c ∧ c < s1.heap.objs.size + 5 := fun c hc => by
        simp only [List.mem_cons, List.not_mem_nil, or_false] at hc
        rcases hc with q | q | q | q | q <;> rw [q] <;> exact ⟨by simp, by simp⟩
      refine ⟨a, b, s1.heap.objs.size + 4, s1.heap.objs.size + 2, s1.heap.objs.size + 3, s1.heap.objs.size, s1.heap.objs.size + 1, H1, rfl, ⟨I1.kept (t' := s1.toks) hk, PySem.W.ktu_apart s1.heap.objs.size a b (Heap.lt_size ho1) (Heap.lt_size ho2), fun c hc => ?_, fun c hc => ?_, hz, hTI, hTO, t1, t2⟩, q⟩
      · exact I1.fpOk (ge c hc).1 (I1.hok.fresh (ge c hc).1)
      · show c < h'.objs.size
        rw [hsz]
        exact (ge c hc).2
theorem lz_list {A : Around} {E : Value → Shared → Prop} {Q : Value → Shared → Prop} {a b z TI TO i1 i2 : Addr} {xs ys : List V} {H1 : Hp} {s : Shared} (hh : A.handled = none) (M : LzMade X pins σ a b z TI TO i1 i2 H1 s) (h1 : H1 a = some (.tup xs)) (h2 : H1 b = some (.tup ys))
    (hR : ∀ (D : Addr) (ts : List Addr) (s' : Shared) (H' : Hp), Inv X pins σ H' s' → Same H1 H' → H1 D = none → H' D = some (.lst (ts.map V.ref)) → ts.length = min xs.length ys.length → (∀ (j : Nat) (t : Addr) (x y : V), ts[j]? = some t → xs[j]? = some x → ys[j]? = some y → H' t = some (.tup [x, y])) → Q (.ref D) s') :
    wpAny (model X.prog X.w) A (call (.type "list") [.ref z]) Q E s := by
  have nDz : s.heap.objs.size ≠ z := (Nat.ne_of_lt (M.lt z (by simp))).symm
  refine callType_codes (Q₁ := fun obj s₁ => obj = .ref s.heap.objs.size ∧ s₁ = { s with heap := s.heap.push { cls := .type "list", data := .seq #[] } }) F.called_list (F.typeCall_list_1 _) F.entry_list_init (code_list_new _ ⟨rfl, rfl⟩) fun obj s₁ h₁ => ?_
  obtain ⟨rfl, rfl⟩ := h₁
  have d1 : (s.heap.push { cls := .type "list", data := .seq #[] }).get? s.heap.objs.size = some { cls := .type "list", data := .seq #[] } := Heap.get?_push_size _ rfl
  refine ⟨⟨_, d1, rfl⟩, F.args_list_init_2 _ _, ?_⟩
  show wpAny _ A.in1.in1 (Builtin.List.listItems (.ref s.heap.objs.size) >>= _) _ _ _
  refine wpAny_bind ?_
  unfold Builtin.List.listItems
  refine wpAny_bind (wpAny_seqItems d1 rfl (wpAny_pure ?_))
  show wpAny _ A.in1.in1 (updateSeq s.heap.objs.size (fun _ => #[]) >>= _) _ _ _
  refine wpAny_bind (wpAny_updateSeq d1 rfl ?_)
  have d2 := Heap.get?_update_self (Obj.mapSeq (fun _ => (#[] : Array Value))) d1 rfl
  refine wpAny_bind (wpAny_letGo ?_)
  unfold Builtin.List.listExtendWith
  have up : ∀ (g : Heap) (f : Obj → Obj), (∀ c o, s.heap.get? c = some o → g.get? c = some o) → ∀ c o, s.heap.get? c = some o → (g.update s.heap.objs.size f).get? c = some o := fun g f q c o e => (Heap.get?_update_other _ _ (Ne.symm (Nat.ne_of_lt (Heap.lt_size e)))).trans (q c o e)
  have u1 : ∀ c o, s.heap.get? c = some o → (s.heap.push { cls := .type "list", data := .seq #[] }).get? c = some o := fun c o e => Heap.get?_push_of_some _ e
  have u2 := up _ (Obj.mapSeq (fun _ => (#[] : Array Value))) u1
  have zt : ∀ {g : Heap}, (∀ c o, s.heap.get? c = some o → g.get? c = some o) → ({ s with heap := g } : Shared).TypeIs (.ref z) "zip" := fun {g} q => ⟨_, q _ _ M.zip, rfl⟩
  refine wpAny_bind (wpAny_typeOf (zt u2) ?_)
  have c1 : Builtin.List.listSameRef (.ref s.heap.objs.size) (.ref z) = false := by simp [Builtin.List.listSameRef, nDz]
  have c2 : (Value.type "zip" == Value.type "list") = false := by decide
  have c3 : (Value.type "zip" == Value.type "tuple") = false := by decide
  simp only [c1, c2, c3, Bool.or_false, Bool.false_eq_true, if_false]
  refine wpAny_bind (wpAny_pyIter_zip (u2 _ _ M.zip) ?_)
  refine wpAny_bind (wpAny_holding ?_)
  unfold Builtin.List.listLengthHint
  refine wpAny_bind (wpAny_specialOf (zt u2) lz_len ?_)
  show wpAny _ A.in1.in1 (specialOf (Value.ref z) (Str.ofString "__length_hint__") >>= _) _ _ _
  refine wpAny_bind (wpAny_specialOf (zt u2) lz_hint ?_)
  refine wpAny_pure ?_
  show wpAny _ A.in1.in1 (rule "list.extend.makes-room" >>= _) _ _ _
  refine wpAny_bind (wpAny_rule (wpAny_bind ?_))
  show wpAny _ A.in1.in1 (updateSeq s.heap.objs.size (·.push .none) >>= _) _ _ _
  refine wpAny_bind (wpAny_updateSeq d2 rfl ?_)
  have d3 := Heap.get?_update_self (Obj.mapSeq (·.push Value.none)) d2 rfl
  refine wpAny_updateSeq (hz := by seq_fits) d3 rfl ?_
  have d4 := Heap.get?_update_self (Obj.mapSeq (·.pop)) d3 rfl
  have u4 := up _ (Obj.mapSeq (·.pop)) (up _ (Obj.mapSeq (·.push Value.none)) u2)
  refine wpAny_pure ⟨plainId_quiet F.plain_extend_loop _, ?_⟩
  have nf : H1 s.heap.objs.size = none := M.I.hok.fresh (Nat.le_refl _)
  have szz : s.heap.objs.size < (((((s.heap.push { cls := .type "list", data := .seq #[] }).update s.heap.objs.size (Obj.mapSeq (fun _ => (#[] : Array Value)))).update s.heap.objs.size (Obj.mapSeq (·.push Value.none))).update s.heap.objs.size (Obj.mapSeq (·.pop)))).objs.size := Heap.lt_size d4
  refine lz_loop (A := A.in1) (H1 := H1) (xs := xs) (ys := ys) (l1 := a) (l2 := b) (TI := TI) (TO := TO) (i1 := i1) (i2 := i2) hh M.ap h1 h2 nf (fun ts s' H' I' sm hl hn hp => ⟨rfl, hR _ ts s' H' I' sm nf hl hn hp⟩) _ [] _ (upd H1 s.heap.objs.size (.lst [])) rfl {
    I := M.I.laid (t' := s.toks) u4 (Nat.le_refl _) ⟨Nat.zero_le _, [], _, .nil, d4⟩
    same := fun c o e => (upd_ne (ne_of_none e nf)).trans e
    fp := fun c hc => ⟨(upd_ne (Nat.ne_of_lt (M.lt c hc))).trans (M.fp c hc).1, (M.fp c hc).2⟩
    zip := .inl ⟨rfl, u4 _ _ M.zip, _, _, u4 _ _ M.pTO⟩
    pTI := u4 _ _ M.pTI
    t1 := M.t1.at fun o e => u4 _ o e
    t2 := M.t2.at fun o e => u4 _ o e
    lst := upd_same
    lt := fun c hc => Nat.lt_trans (M.lt c hc) szz
    few := ⟨Nat.zero_le _, Nat.zero_le _⟩
    prs := fun j t x y h => by simp at h }
theorem pe_listZip {X : Cx} {e e2 : Expr} {ta : TA} {p pos p2 pos2 : Pos} (hc : X.calm = true) (hg : Gl X "list") (hm : X.mg "list" = none) (hg2 : Gl X "zip") (hm2 : X.mg "zip" = none) (ha : PA X [e, e2] ta)
    (na : starEach [Expr.Call (.Name "zip" p2) [e, e2] [] pos2] X.env = (false, eval (.Call (.Name "zip" p2) [e, e2] [] pos2) X.env) :: starEach [] X.env := by rfl)
    (hs : starEach [e, e2] X.env = (false, eval e X.env) :: starEach [e2] X.env := by rfl) (hpl : (backTo pos2 (starEach [e2] X.env)).any (·.1) = false := by rfl) :
    PE X (.Call (.Name "list" p) [.Call (.Name "zip" p2) [e, e2] [] pos2] [] pos) (tListZip ta) := by
  refine ⟨fun pins s σ H Q I h => ?_⟩
  refine Call_ (ld_blt I hg hm boot_list (PyProof.Rows.callWith_type1 (args_cons (thn (lz_zip hg2 hm2 ha I hs hpl (fun vs H1 ⟨a, b, xs, ys, ev, h1, h2, _⟩ => ⟨a, b, xs, ys, ev, h1, h2⟩) h) fun v s1 ⟨a, b, z, TI, TO, i1, i2, H1, ev, M, q⟩ => args_nil ?_) na) na))
  subst ev
  obtain ⟨a', b', xs, ys, ev, h1, h2, q⟩ := q
  cases ev
  exact lz_list (I.ok.hd hc) M h1 h2 fun D ts s' H' I' sm nD hl hn hp => ⟨.ref D, H', I', rfl, q D ts H' sm nD hl hn hp⟩
end
end L2

/-! MR9 -/
/-! list(enumerate(xs, start=k)) of a list: a new list of new pairs. -/
namespace L2
open PySem PySem.Spec PyProof.Rows
theorem le_len : typeLookup (.type "enumerate") "__len__" = pure none := am_miss_of_fast (by decide +kernel)
theorem le_hint : typeLookup (.type "enumerate") "__length_hint__" = pure none := am_miss_of_fast (by decide +kernel)
section
variable {prog : Program} {w : World} {A : Around} {E : Value → Shared → Prop} {s : Shared}
variable {e it l T : Addr} {n : Nat} {c : Int} {zs : Array Value} {x o : Value} {f : Bool} {oT : Obj}
/-- the next pair while the last one is still there -/
theorem le_item {Q : Option Value → Shared → Prop} (he : IsEnumHeld s.heap e it c o T f) (hT : s.heap.get? T = some oT) (t1 : T ≠ e) (t2 : T ≠ it) (hi : s.heap.IsListIter it l n) (hl : s.heap.IsList l zs) (hx : zs[n]? = some x) (ne : e ≠ it)
    (q : ∀ h', IsEnumHeld h' e it (c + 1) o T true → h'.IsListIter it l (n + 1) → h'.get? s.heap.objs.size = some { cls := .type "tuple", data := .seq #[.int c s.toks, x] } → h'.objs.size = s.heap.objs.size + 1 → (∀ b u, b ≠ e → b ≠ it → s.heap.get? b = some u → h'.get? b = some u) → Q (some (.ref s.heap.objs.size)) { s with heap := h', toks := s.toks + 1 }) :
    wpAny (model prog w) A (pyNext (.ref e)) Q E s := by
  have ty : s.TypeIs (.ref e) "enumerate" := ⟨_, he, rfl⟩
  obtain ⟨h0, gg, dd, tk, os⟩ := s
  unfold pyNext
  refine wpAny_bind (wpAny_attempt (wpAny_callSpecial?_slot (name := Str.ofString "__next__") ty F.slot_enumerate_next (wpAny_call_entry F.slot_enumerate_next ty F.entry_enumerate_next ?_ (F.args_enumerate_next_1 _))))
  show wpAny _ _ (field (.ref e) 2 >>= _) _ _ _
  refine wpAny_bind (wpAny_field he rfl (x := .ref it) rfl ?_)
  refine wpAny_bind (wpAny_nextOf_list_item hi hl hx fun g1 i1 b1 => ?_)
  have b1' : Heap.SameBut it h0 g1 := b1
  have e1 : IsEnumHeld g1 e it c o T f := (b1'.2 e ne).trans he
  show wpAny _ _ (field (.ref e) 3 >>= _) _ _ ⟨g1, gg, dd, tk, os⟩
  refine wpAny_bind (wpAny_field e1 rfl (x := rawInt c) rfl ?_)
  show wpAny _ _ (field (.ref e) 4 >>= _) _ _ ⟨g1, gg, dd, tk, os⟩
  refine wpAny_bind (wpAny_field e1 rfl (x := .none) rfl ?_)
  show wpAny _ _ (mkInt c >>= _) _ _ ⟨g1, gg, dd, tk, os⟩
  refine wpAny_bind (wpAny_mkInt ?_)
  show wpAny _ _ (setField (.ref e) 3 (rawInt (c + 1)) >>= _) _ _ ⟨g1, gg, dd, tk + 1, os⟩
  refine wpAny_bind (wpAny_setField_rec e1 (by simp) fun g2 e2 b2 => ?_)
  have b2' : Heap.SameBut e g1 g2 := b2
  have e2' : IsEnumHeld g2 e it (c + 1) o T f := e2
  show wpAny _ _ (setField (.ref e) 4 .none >>= _) _ _ ⟨g2, gg, dd, tk + 1, os⟩
  refine wpAny_bind (wpAny_setField_rec e2' (by simp) fun g3 e3 b3 => ?_)
  have b3' : Heap.SameBut e g2 g3 := b3
  have e3' : IsEnumHeld g3 e it (c + 1) o T f := e3
  show wpAny _ _ (newTuple [.int c tk, x] >>= _) _ _ ⟨g3, gg, dd, tk + 1, os⟩
  refine wpAny_bind (wpAny_newTuple ?_)
  have sz : g3.objs.size = h0.objs.size := by rw [b3'.1, b2'.1, b1'.1]
  have lt : e < h0.objs.size := Heap.lt_size he
  have kp3 : ∀ b u, b ≠ e → b ≠ it → h0.get? b = some u → g3.get? b = some u := fun b u n1 n2 z => b3'.extBut b u n1 (b2'.extBut b u n1 (b1'.extBut b u n2 z))
  have i3 : g3.IsListIter it l (n + 1) := (i1.extBut b2'.extBut ne.symm).extBut b3'.extBut ne.symm
  obtain ⟨g4, hg4⟩ : ∃ g4, g4 = g3.push { cls := .type "tuple", data := .seq #[.int c tk, x] } := ⟨_, rfl⟩
  have e4 : IsEnumHeld g4 e it (c + 1) o T f := by
    rw [hg4]
    exact Heap.get?_push_of_some _ e3'
  have tu : g4.get? h0.objs.size = some { cls := .type "tuple", data := .seq #[.int c tk, x] } := by
    rw [hg4, ← sz]
    exact Heap.get?_push_size _ rfl
  have sz4 : g4.objs.size = h0.objs.size + 1 := by rw [hg4, Heap.size_push, sz]
  have kp4 : ∀ b u, b ≠ e → b ≠ it → h0.get? b = some u → g4.get? b = some u := fun b u n1 n2 z => by
    rw [hg4]
    exact Heap.get?_push_of_some _ (kp3 b u n1 n2 z)
  have i4 : g4.IsListIter it l (n + 1) := by
    rw [hg4]
    exact i3.at fun u z => Heap.get?_push_of_some _ z
  rw [← hg4, sz]
  clear hg4
  show wpAny _ _ (Builtin.SmallTypes.ownedTupleIsFree (.ref e) >>= _) _ _ ⟨g4, gg, dd, tk + 1, os⟩
  refine wpAny_bind (wpAny_tupleHeld_enum (s := ⟨g4, gg, dd, tk + 1, os⟩) e4 (kp4 T oT t1 t2 hT) fun g5 e5 b5 => ?_)
  have b5' : Heap.SameBut e g4 g5 := b5
  simp only [Bool.false_eq_true, if_false]
  refine wpAny_pure ⟨_, rfl, wpAny_pure ?_⟩
  refine q g5 e5 (i4.extBut b5'.extBut ne.symm) (b5'.extBut _ _ (Nat.ne_of_gt lt) tu) ?_ fun b u n1 n2 z => b5'.extBut b u n1 (kp4 b u n1 n2 z)
  show g5.objs.size = _
  rw [b5'.1, sz4]
theorem le_end {Q : Option Value → Shared → Prop} (hh : A.handled = none) (he : IsEnumHeld s.heap e it c o T f) (hi : s.heap.IsListIter it l n) (hl : s.heap.IsList l zs) (hx : zs[n]? = none) (q : ∀ h', Heap.ExtBut it s.heap h' → Q none { s with heap := h' }) :
    wpAny (model prog w) A (pyNext (.ref e)) Q E s := by
  have ty : s.TypeIs (.ref e) "enumerate" := ⟨_, he, rfl⟩
  unfold pyNext
  refine wpAny_bind (wpAny_attempt (wpAny_callSpecial?_slot (name := Str.ofString "__next__") ty F.slot_enumerate_next (wpAny_call_entry F.slot_enumerate_next ty F.entry_enumerate_next ?_ (F.args_enumerate_next_1 _))))
  show wpAny _ _ (field (.ref e) 2 >>= _) _ _ _
  refine wpAny_bind (wpAny_field he rfl (x := .ref it) rfl ?_)
  refine wpAny_bind (wpAny_nextOf_list_end hh hi hl hx fun g1 y b1 hy => ?_)
  obtain ⟨oy, hoy, hcy⟩ := hy
  refine wpAny_bind (wpAny_isInstance (T := "StopIteration") (b := true) ⟨oy, hoy, hcy⟩ isSubtype_stop ?_)
  exact wpAny_pure (q _ b1)
end
/-! ### the loop -/
section
variable {X : Cx} {pins : List (Addr × Obj)} {σ : L2.St} {l e it D : Addr} {k : Int} {xs : List V} {H1 : Hp}
structure LeInv (X : Cx) (pins : List (Addr × Obj)) (σ : L2.St) (l e it D : Addr) (k : Int) (xs : List V) (H1 : Hp) (ts : List Addr) (s : Shared) (H : Hp) : Prop where
  I : Inv X pins σ H s
  same : Same H1 H
  fp : ∀ c ∈ [e, it], FpOk X pins H c
  en : (ts = [] ∧ ∃ o, IsEnum s.heap e it k o) ∨ ∃ T f oT o, IsEnumHeld s.heap e it (k + (ts.length : Nat)) o T f ∧ T ≠ e ∧ T ≠ it ∧ T ≠ D ∧ s.heap.get? T = some oT
  li : s.heap.IsListIter it l ts.length
  lst : H D = some (.lst (ts.map V.ref))
  lt : ∀ c ∈ [e, it], c < s.heap.objs.size
  few : ts.length ≤ xs.length
  prs : ∀ (j : Nat) (t : Addr) (x : V), ts[j]? = some t → xs[j]? = some x → H t = some (.tup [.int (k + (j : Nat)), x])
theorem le_loop {A : Around} {R : Result → Shared → Prop} {res : Value} (hh : A.in1.handled = none) (ne : e ≠ it) (nl : l ≠ it) (h1 : H1 l = some (.lst xs)) (nD : H1 D = none)
    (hR : ∀ (ts : List Addr) (s' : Shared) (H' : Hp), Inv X pins σ H' s' → Same H1 H' → H' D = some (.lst (ts.map V.ref)) → ts.length = xs.length → (∀ (j : Nat) (t : Addr) (x : V), ts[j]? = some t → xs[j]? = some x → H' t = some (.tup [.int (k + (j : Nat)), x])) → R (.ok (.ret res)) s') :
    ∀ (m : Nat) (ts : List Addr) (s : Shared) (H : Hp), xs.length - ts.length = m → LeInv X pins σ l e it D k xs H1 ts s H → codeAny (model X.prog X.w) A (.builtin "list.extend.loop" ⟨[.ref D, .ref e, res], []⟩) R s := by
  intro m
  induction m with
  | zero =>
    intro ts s H hk J
    refine codeAny_builtin F.entry_extend_loop ?_
    rw [Around.under_plainId F.plain_extend_loop _]
    show wpAny _ A.in1 (pyNext (.ref e) >>= _) _ _ s
    have f := J.few
    have hn : ts.length = xs.length := by omega
    obtain ⟨z, its, n0, r0, len0, e0⟩ := J.I.lstM (J.same _ _ h1)
    have hL : s.heap.IsList l its.toArray := ⟨_, e0, rfl, n0, rfl⟩
    have hx : its.toArray[ts.length]? = none := by simp; omega
    have fin : ∀ h', Heap.ExtBut it s.heap h' → R (.ok (.ret res)) { s with heap := h' } := fun h' kp =>
      hR ts _ H (J.I.turnedL (t' := s.toks) (ch := [e, it]) (fun c u hb q => kp c u (fun z => hb (by simp [z])) q) J.fp) J.same J.lst hn J.prs
    rcases J.en with ⟨_, o, hz⟩ | ⟨T, f, oT, o, hz, _⟩
    · have hz0 : its.toArray.size = ts.length := by simp; omega
      refine wpAny_bind (wpAny_pyNext_enum_endD (Draws.list (A := A.in1.in1) (show A.in1.in1.handled = none from hh) it l nl its.toArray) hz ?_ fun h' kp => wpAny_pure (fin h' kp))
      rw [hz0]
      exact ⟨J.li, hL⟩
    · exact wpAny_bind (le_end hh hz J.li hL hx fun h' kp => wpAny_pure (fin h' kp))
  | succ m ih =>
    intro ts s H hk J
    refine codeAny_builtin F.entry_extend_loop ?_
    rw [Around.under_plainId F.plain_extend_loop _]
    show wpAny _ A.in1 (pyNext (.ref e) >>= _) _ _ s
    obtain ⟨z, its, n0, r0, len0, e0⟩ := J.I.lstM (J.same _ _ h1)
    have hL : s.heap.IsList l its.toArray := ⟨_, e0, rfl, n0, rfl⟩
    have hx : xs[ts.length]? = some (xs[ts.length]'(by omega)) := by simp
    generalize xs[ts.length]'(by omega) = x at hx
    obtain ⟨u, hu, ru⟩ := r0.get hx
    have hu' : its.toArray[ts.length]? = some u := by simpa using hu
    have push : ∀ (h' : Heap) (tk : Nat) (tt : Tok), (∃ T f oT o, IsEnumHeld h' e it (k + (ts.length : Nat) + 1) o T f ∧ T ≠ e ∧ T ≠ it ∧ T ≠ D ∧ (T = s.heap.objs.size ∨ h'.get? T = some oT)) → h'.IsListIter it l (ts.length + 1) → h'.get? s.heap.objs.size = some { cls := .type "tuple", data := .seq #[.int (k + (ts.length : Nat)) tt, u] } →
        (∀ c o, c ≠ e → c ≠ it → s.heap.get? c = some o → h'.get? c = some o) →
        wpAny (model X.prog X.w) A.in1 (updateSeq D (·.push (.ref s.heap.objs.size)) >>= fun _ => again (.builtin "list.extend.loop" ⟨[.ref D, .ref e, res], []⟩))
          (fun fin s' => match fin with | .done f => R (.ok f) s' | .again c' => c'.quiet = true ∧ codeAny (model X.prog X.w) A c' R s') (fun e s' => R (.error e) s') { s with heap := h', toks := tk } := by
      intro h' tk tt hen a3 a5 kp
      have nf : H s.heap.objs.size = none := J.I.hok.fresh (Nat.le_refl _)
      have new : ObjOk X.prog X.w (upd H s.heap.objs.size (.tup [.int (k + (ts.length : Nat)), x])) h' s.heap.objs.size (.tup [.int (k + (ts.length : Nat)), x]) := ⟨by show 2 ≤ sizeLine; decide, [.int (k + (ts.length : Nat)) tt, u], .cons ⟨_, rfl⟩ (.cons ru .nil), ⟨_, a5, rfl, _, rfl⟩⟩
      have I1 : Inv X pins σ (upd H s.heap.objs.size (.tup [.int (k + (ts.length : Nat)), x])) { s with heap := h', toks := tk } :=
        J.I.turnedNew (t' := tk) (ch := [e, it]) (fun c o hb q => kp c o (fun z => hb (by simp [z])) (fun z => hb (by simp [z])) q) J.fp (Nat.le_refl _) new
      have nTD : s.heap.objs.size ≠ D := (ne_of_none J.lst nf).symm
      have hD1 : (upd H s.heap.objs.size (.tup [.int (k + (ts.length : Nat)), x])) D = some (.lst (ts.map V.ref)) := (upd_ne nTD.symm).trans J.lst
      obtain ⟨hz, its3, n3, r3, l3, e3⟩ := I1.lstM hD1
      have len : (ts.map V.ref).length = ts.length := List.length_map _
      have small : ts.length + 1 ≤ sizeLine := by omega
      have nc : ∀ c ∈ [e, it], c ≠ D := fun c hc => (ne_of_none J.lst (J.fp c hc).1).symm
      have oth : ∀ b o, b ≠ D → h'.get? b = some o → (h'.update D (Obj.mapSeq (·.push (.ref s.heap.objs.size)))).get? b = some o := fun b o hb z => (Heap.get?_update_other _ _ hb.symm).trans z
      have szT : s.heap.objs.size < h'.objs.size := Heap.lt_size a5
      refine wpAny_bind (wpAny_updateSeq e3 rfl ?_ (by rw [List.size_toArray, ← l3, len]; omega) (by show (its3.toArray.push _).size ≤ sizeLine + 1; rw [Array.size_push, List.size_toArray, ← l3, len]; omega))
      refine wpAny_pure ⟨plainId_quiet F.plain_extend_loop _, ih (ts ++ [s.heap.objs.size]) _ (upd (upd H s.heap.objs.size (.tup [.int (k + (ts.length : Nat)), x])) D (.lst ((ts ++ [s.heap.objs.size]).map V.ref))) (by rw [List.length_append]; simp; omega) ?_⟩
      have rT : Vals ((ts ++ [s.heap.objs.size]).map V.ref) (its3 ++ [Value.ref s.heap.objs.size]) := by
        rw [List.map_append]
        exact r3.append (.cons rfl .nil)
      refine {
        I := I1.lset (t' := tk) (its' := its3 ++ [Value.ref s.heap.objs.size]) hD1 e3 (by simp) rT (by rw [List.length_map, List.length_append]; simpa using small)
        same := fun b o z => ?_
        fp := fun c hc => ?_
        en := .inr ?_
        li := ?_
        lst := upd_same
        lt := fun c hc => ?_
        few := by rw [List.length_append]; simp; omega
        prs := fun j t x' ht hx' => ?_ }
      · have z1 := J.same b o z
        rw [upd_ne (ne_of_none z nD), upd_ne (ne_of_none z1 nf)]
        exact z1
      · have q := J.fp c hc
        refine ⟨?_, q.2⟩
        rw [upd_ne (nc c hc), upd_ne (Nat.ne_of_lt (J.lt c hc))]
        exact q.1
      · obtain ⟨T, f, oT, o, q, n1, n2, n3', hT⟩ := hen
        have hT' : ∃ oT, (h'.update D (Obj.mapSeq (·.push (.ref s.heap.objs.size)))).get? T = some oT := by
          rcases hT with z | z
          · rw [z]
            exact ⟨_, oth _ _ nTD a5⟩
          · exact ⟨_, oth _ _ n3' z⟩
        obtain ⟨oT2, hT2⟩ := hT'
        refine ⟨T, f, oT2, o, ?_, n1, n2, n3', hT2⟩
        have ec : k + (((ts ++ [s.heap.objs.size]).length : Nat) : Int) = k + (ts.length : Nat) + 1 := by rw [List.length_append]; simp; omega
        rw [ec]
        exact oth _ _ (nc e (by simp)) q
      · rw [List.length_append]
        exact a3.at fun o z => oth _ o (nc it (by simp)) z
      · have q := J.lt c hc
        show c < (h'.update D (Obj.mapSeq (·.push (.ref s.heap.objs.size)))).objs.size
        rw [Heap.size_update]
        exact Nat.lt_trans q szT
      · rw [List.getElem?_append] at ht
        by_cases hj : j < ts.length
        · rw [if_pos hj] at ht
          have q := J.prs j t x' ht hx'
          rw [upd_ne (ne_of J.lst q (by intro z; cases z)).symm, upd_ne (ne_of_none q nf)]
          exact q
        · rw [if_neg hj] at ht
          have hj0 : j = ts.length := by
            have := (List.getElem?_eq_some_iff.mp ht).1
            simp at this
            omega
          subst hj0
          rw [hx] at hx'
          cases hx'
          simp at ht
          subst ht
          rw [upd_ne nTD]
          exact upd_same
    have ltm : ∀ c ∈ [e, it], s.heap.objs.size ≠ c := fun c hc => (Nat.ne_of_lt (J.lt c hc)).symm
    have nsD : s.heap.objs.size ≠ D := (ne_of_none J.lst (J.I.hok.fresh (Nat.le_refl _))).symm
    rcases J.en with ⟨hts, o, hz⟩ | ⟨T, f, oT, o, hz, n1, n2, n3, hT⟩
    · have hz' : IsEnum s.heap e it (k + (ts.length : Nat)) o := by
        rw [hts]
        simpa using hz
      refine wpAny_bind (wpAny_pyNext_enum_itemC (Draws.list (A := A.in1.in1) (show A.in1.in1.handled = none from hh) it l nl its.toArray) hz' ⟨J.li, hL⟩ (by simp; omega) ne (by
        simp only [List.mem_cons, List.not_mem_nil, or_false, not_or]
        refine ⟨ne, fun z => ?_⟩
        have q := (J.fp e (by simp)).1
        rw [z, J.same _ _ h1] at q
        cases q) fun x2 h' tk hP a1 a2 a3 a4 kp => ?_)
      have ex : x2 = u := by
        have q := hu'.symm.trans hP
        exact (Option.some.inj q).symm
      subst ex
      exact push h' (tk + 1) tk ⟨s.heap.objs.size, false, { cls := .type "tuple" }, _, a1, ltm e (by simp), ltm it (by simp), nsD, .inl rfl⟩ a2.1 a3 kp
    · refine wpAny_bind (le_item hz hT n1 n2 J.li hL hu' ne fun h' a1 a2 a3 a4 kp => ?_)
      exact push h' (s.toks + 1) s.toks ⟨T, true, oT, o, a1, n1, n2, n3, .inr (kp T oT n1 n2 hT)⟩ a2 a3 kp
end
/-! ### the whole expression -/
section
variable {M : Model} {A : Around} {E : Value → Shared → Prop} {s : Shared}
/-- a built-in class called with keywords -/
theorem ckt {pos : Pos} {T : String} {as : List (Bool × Sem Value)} {kws : List (Option Str × Sem Value)} {Q : Value → Shared → Prop} (h1 : as.any (·.1) = false) (h2 : kws.any (·.1.isNone) = false)
    (h : wpAny M A (evalArgs (.type T) true as kws) (fun a s1 => wpAny M A (call (.type T) a.pos a.kw) Q E s1) E s) : wpAny M A (callWith pos (.type T) [] as kws) Q E s := by
  unfold callWith
  refine wpAny_bind (wpAny_holding (wpAny_mono h (fun b t1 hb => wpAny_bind (wpAny_standAt ?_)) fun _ _ z => z))
  simp only [h1, h2, Bool.or_false, List.nil_append]
  refine wpAny_bind (wpAny_pure ?_)
  exact wpAny_bind (wpAny_mono hb (fun v t2 hv => wpAny_bind (wpAny_holding (wpAny_point (wpAny_pure hv)))) fun _ _ z => z)
end
section
variable {X : Cx} {pins : List (Addr × Obj)} {σ : L2.St}
structure LeMade (X : Cx) (pins : List (Addr × Obj)) (σ : L2.St) (l e it : Addr) (k : Int) (H1 : Hp) (s : Shared) : Prop where
  I : Inv X pins σ H1 s
  ne : e ≠ it
  fp : ∀ c ∈ [e, it], FpOk X pins H1 c
  lt : ∀ c ∈ [e, it], c < s.heap.objs.size
  en : ∃ o, IsEnum s.heap e it k o
  li : s.heap.IsListIter it l 0
def tListEnum (te tk : TE) : TE := fun σ H Q => te σ H fun x H1 => tk σ H1 fun y H2 => ∃ (l : Addr) (xs : List V) (k : Int), x = .ref l ∧ y = .int k ∧ H2 l = some (.lst xs) ∧ -(2 ^ 63) ≤ k ∧ k < 2 ^ 63 ∧ ∀ (D : Addr) (ts : List Addr) (H' : Hp), Same H2 H' → H2 D = none → H' D = some (.lst (ts.map V.ref)) → ts.length = xs.length →
  (∀ (j : Nat) (t : Addr) (x : V), ts[j]? = some t → xs[j]? = some x → H' t = some (.tup [.int (k + (j : Nat)), x])) → Q (.ref D) H'
theorem le_list {A : Around} {E : Value → Shared → Prop} {Q : Value → Shared → Prop} {l e it : Addr} {k : Int} {xs : List V} {H1 : Hp} {s : Shared} (hh : A.handled = none) (M : LeMade X pins σ l e it k H1 s) (h1 : H1 l = some (.lst xs))
    (hR : ∀ (D : Addr) (ts : List Addr) (s' : Shared) (H' : Hp), Inv X pins σ H' s' → Same H1 H' → H1 D = none → H' D = some (.lst (ts.map V.ref)) → ts.length = xs.length → (∀ (j : Nat) (t : Addr) (x : V), ts[j]? = some t → xs[j]? = some x → H' t = some (.tup [.int (k + (j : Nat)), x])) → Q (.ref D) s') :
    wpAny (model X.prog X.w) A (call (.type "list") [.ref e]) Q E s := by
  have nDe : s.heap.objs.size ≠ e := (Nat.ne_of_lt (M.lt e (by simp))).symm
  obtain ⟨o0, hen⟩ := M.en
  refine callType_codes (Q₁ := fun obj s₁ => obj = .ref s.heap.objs.size ∧ s₁ = { s with heap := s.heap.push { cls := .type "list", data := .seq #[] } }) F.called_list (F.typeCall_list_1 _) F.entry_list_init (code_list_new _ ⟨rfl, rfl⟩) fun obj s₁ h₁ => ?_
  obtain ⟨rfl, rfl⟩ := h₁
  have d1 : (s.heap.push { cls := .type "list", data := .seq #[] }).get? s.heap.objs.size = some { cls := .type "list", data := .seq #[] } := Heap.get?_push_size _ rfl
  refine ⟨⟨_, d1, rfl⟩, F.args_list_init_2 _ _, ?_⟩
  show wpAny _ A.in1.in1 (Builtin.List.listItems (.ref s.heap.objs.size) >>= _) _ _ _
  refine wpAny_bind ?_
  unfold Builtin.List.listItems
  refine wpAny_bind (wpAny_seqItems d1 rfl (wpAny_pure ?_))
  show wpAny _ A.in1.in1 (updateSeq s.heap.objs.size (fun _ => #[]) >>= _) _ _ _
  refine wpAny_bind (wpAny_updateSeq d1 rfl ?_)
  have d2 := Heap.get?_update_self (Obj.mapSeq (fun _ => (#[] : Array Value))) d1 rfl
  refine wpAny_bind (wpAny_letGo ?_)
  unfold Builtin.List.listExtendWith
  have up : ∀ (g : Heap) (f : Obj → Obj), (∀ c o, s.heap.get? c = some o → g.get? c = some o) → ∀ c o, s.heap.get? c = some o → (g.update s.heap.objs.size f).get? c = some o := fun g f q c o z => (Heap.get?_update_other _ _ (Ne.symm (Nat.ne_of_lt (Heap.lt_size z)))).trans (q c o z)
  have u1 : ∀ c o, s.heap.get? c = some o → (s.heap.push { cls := .type "list", data := .seq #[] }).get? c = some o := fun c o z => Heap.get?_push_of_some _ z
  have u2 := up _ (Obj.mapSeq (fun _ => (#[] : Array Value))) u1
  have zt : ∀ {g : Heap}, (∀ c o, s.heap.get? c = some o → g.get? c = some o) → ({ s with heap := g } : Shared).TypeIs (.ref e) "enumerate" := fun {g} q => ⟨_, q _ _ hen, rfl⟩
  refine wpAny_bind (wpAny_typeOf (zt u2) ?_)
  have c1 : Builtin.List.listSameRef (.ref s.heap.objs.size) (.ref e) = false := by simp [Builtin.List.listSameRef, nDe]
  have c2 : (Value.type "enumerate" == Value.type "list") = false := by decide
  have c3 : (Value.type "enumerate" == Value.type "tuple") = false := by decide
  simp only [c1, c2, c3, Bool.or_false, Bool.false_eq_true, if_false]
  refine wpAny_bind (wpAny_pyIter_enum (u2 _ _ hen) ?_)
  refine wpAny_bind (wpAny_holding ?_)
  unfold Builtin.List.listLengthHint
  refine wpAny_bind (wpAny_specialOf (zt u2) le_len ?_)
  show wpAny _ A.in1.in1 (specialOf (Value.ref e) (Str.ofString "__length_hint__") >>= _) _ _ _
  refine wpAny_bind (wpAny_specialOf (zt u2) le_hint ?_)
  refine wpAny_pure ?_
  show wpAny _ A.in1.in1 (rule "list.extend.makes-room" >>= _) _ _ _
  refine wpAny_bind (wpAny_rule (wpAny_bind ?_))
  show wpAny _ A.in1.in1 (updateSeq s.heap.objs.size (·.push .none) >>= _) _ _ _
  refine wpAny_bind (wpAny_updateSeq d2 rfl ?_)
  have d3 := Heap.get?_update_self (Obj.mapSeq (·.push Value.none)) d2 rfl
  refine wpAny_updateSeq (hz := by seq_fits) d3 rfl ?_
  have d4 := Heap.get?_update_self (Obj.mapSeq (·.pop)) d3 rfl
  have u4 := up _ (Obj.mapSeq (·.pop)) (up _ (Obj.mapSeq (·.push Value.none)) u2)
  refine wpAny_pure ⟨plainId_quiet F.plain_extend_loop _, ?_⟩
  have nf : H1 s.heap.objs.size = none := M.I.hok.fresh (Nat.le_refl _)
  have szz : s.heap.objs.size < (((((s.heap.push { cls := .type "list", data := .seq #[] }).update s.heap.objs.size (Obj.mapSeq (fun _ => (#[] : Array Value)))).update s.heap.objs.size (Obj.mapSeq (·.push Value.none))).update s.heap.objs.size (Obj.mapSeq (·.pop)))).objs.size := Heap.lt_size d4
  have nlit : l ≠ it := fun z => by
    have q := (M.fp it (by simp)).1
    rw [← z, h1] at q
    cases q
  refine le_loop (A := A.in1) (H1 := H1) (xs := xs) (l := l) (it := it) hh M.ne nlit h1 nf (fun ts s' H' I' sm hl hn hp => ⟨rfl, hR _ ts s' H' I' sm nf hl hn hp⟩) _ [] _ (upd H1 s.heap.objs.size (.lst [])) rfl {
    I := M.I.laid (t' := s.toks) u4 (Nat.le_refl _) ⟨Nat.zero_le _, [], _, .nil, d4⟩
    same := fun c o z => (upd_ne (ne_of_none z nf)).trans z
    fp := fun c hc => ⟨(upd_ne (Nat.ne_of_lt (M.lt c hc))).trans (M.fp c hc).1, (M.fp c hc).2⟩
    en := .inl ⟨rfl, o0, u4 _ _ hen⟩
    li := M.li.at fun o z => u4 _ o z
    lst := upd_same
    lt := fun c hc => Nat.lt_trans (M.lt c hc) szz
    few := Nat.zero_le _
    prs := fun j t x h => by simp at h }
def leRest (x y : V) (H2 : Hp) (Q : VK) : Prop := ∃ (l : Addr) (xs : List V) (k : Int), x = .ref l ∧ y = .int k ∧ H2 l = some (.lst xs) ∧ -(2 ^ 63) ≤ k ∧ k < 2 ^ 63 ∧ ∀ (D : Addr) (ts : List Addr) (H' : Hp), Same H2 H' → H2 D = none → H' D = some (.lst (ts.map V.ref)) → ts.length = xs.length →
  (∀ (j : Nat) (t : Addr) (x : V), ts[j]? = some t → xs[j]? = some x → H' t = some (.tup [.int (k + (j : Nat)), x])) → Q (.ref D) H'
theorem pe_listEnum {X : Cx} {e ke : Expr} {te tk : TE} {p pos p2 pos2 kp : Pos} (hc : X.calm = true) (hg : Gl X "list") (hm : X.mg "list" = none) (hg2 : Gl X "enumerate") (hm2 : X.mg "enumerate" = none) (ha : PA X [e] (tCons te tNil)) (hk : PK X [⟨some "start", ke, kp⟩] (tCons tk tNil))
    (na : starEach [Expr.Call (.Name "enumerate" p2) [e] [⟨some "start", ke, kp⟩] pos2] X.env = (false, eval (.Call (.Name "enumerate" p2) [e] [⟨some "start", ke, kp⟩] pos2) X.env) :: starEach [] X.env := by rfl)
    (hs : starEach [e] X.env = (false, eval e X.env) :: starEach [] X.env := by rfl) :
    PE X (.Call (.Name "list" p) [.Call (.Name "enumerate" p2) [e] [⟨some "start", ke, kp⟩] pos2] [] pos) (tListEnum te tk) := by
  refine ⟨fun pins s σ H Q I h => ?_⟩
  have h' : te σ H fun x H1 => tk σ H1 fun y H2 => leRest x y H2 Q := h
  refine Call_ (ld_blt I hg hm boot_list (PyProof.Rows.callWith_type1 (args_cons (thn (Q := fun v s1 => ∃ l e it k H1 xs, v = .ref e ∧ LeMade X pins σ l e it k H1 s1 ∧ H1 l = some (.lst xs) ∧ ∀ (D : Addr) (ts : List Addr) (H' : Hp), Same H1 H' → H1 D = none → H' D = some (.lst (ts.map V.ref)) → ts.length = xs.length →
    (∀ (j : Nat) (t : Addr) (x : V), ts[j]? = some t → xs[j]? = some x → H' t = some (.tup [.int (k + (j : Nat)), x])) → Q (.ref D) H') ?_ fun v s1 ⟨l, e0, it, k, H1, xs, ev, M, h1, q⟩ => args_nil ?_) na) na))
  · refine wpAny_Call_Name_kw (ld_blt I hg2 hm2 boot_enumerate ?_)
    refine ckt (by rw [hs]; rfl) rfl ?_
    have run1 := ha.run pos2 pins s σ H (fun vs H1 => match vs with | [x] => tk σ H1 fun y H2 => leRest x y H2 Q | _ => False) I h'
    rw [hs] at run1 ⊢
    refine evalArgs_kwB rfl (thn run1 fun us s1 ⟨vs, H1, I1, r1, q1⟩ => ?_)
    match vs, r1, q1 with
    | [x], r1, q1 =>
      refine thn (hk.run pos2 pins s1 σ H1 (fun ws H2 => match ws with | [y] => leRest x y H2 Q | _ => False) I1 q1) fun ws s2 ⟨zs, H2, I2, r2, q2⟩ => ?_
      match zs, r2, q2 with
      | [y], r2, q2 =>
        obtain ⟨l, xs, k, rfl, rfl, hl, k0, k1, q3⟩ := q2
        cases r1 with
        | cons ra rb =>
          cases rb
          cases ra
          cases r2 with
          | cons rc rd =>
            cases rd
            obtain ⟨tt, rfl⟩ := rc
            obtain ⟨z, its, n0, r0, len0, e0⟩ := I2.lstM hl
            show wpAny _ _ (call (.type "enumerate") [.ref l] [(Str.ofString "start", .int k tt)]) _ _ _
            refine enum_begins_start (begins_list l its.toArray) ⟨_, e0, rfl, n0, rfl⟩ k0 k1 fun h' he hi hsz hk' => ?_
            have ge : ∀ c ∈ [s2.heap.objs.size + 1, s2.heap.objs.size], s2.heap.objs.size ≤ c ∧ c < s2.heap.objs.size + 2 := fun c hc => by
              simp only [List.mem_cons, List.not_mem_nil, or_false] at hc
              rcases hc with q | q <;> rw [q] <;> exact ⟨by simp, by simp⟩
            refine ⟨l, _, s2.heap.objs.size, k, H2, xs, rfl, ⟨I2.kept (t' := s2.toks) hk', Nat.succ_ne_self _, fun c hc => I2.fpOk (ge c hc).1 (I2.hok.fresh (ge c hc).1), fun c hc => ?_, ⟨_, he⟩, ⟨_, hi, rfl, rfl⟩⟩, hl, q3⟩
            show c < h'.objs.size
            rw [hsz]
            exact (ge c hc).2
  · subst ev
    exact le_list (I.ok.hd hc) M h1 fun D ts s' H' I' sm nD hl hn hp => ⟨.ref D, H', I', rfl, q D ts H' sm nD hl hn hp⟩
end
end L2

/-! MR10 -/
/-! t[::-1] of a tuple: a new tuple. -/
namespace HT
open PySem PySem.Spec PyProof.Rows L2
section
variable {prog : Program} {w : World} {A : Around} {E : Value → Shared → Prop} {s : Shared}
theorem adjust_rev (n : Nat) : Builtin.Slice.sliceAdjust none none (-1) (n : Int) = ((n : Int) - 1, -1) := rfl
theorem places_rev (n : Nat) : Builtin.Slice.slicePlaces ((n : Int) - 1) (-1) (-1) = n := by
  unfold Builtin.Slice.slicePlaces
  have h1 : ¬ ((-1 : Int) > 0) := by decide
  rw [if_neg h1]
  split
  · rw [show (-(-1) : Int) = 1 by decide, Int.ediv_one]
    omega
  · omega
theorem sliceApplied_rev {sl : Addr} {vs : Value} {n : Nat} {Q : Int × Int × Nat → Shared → Prop} (hs : s.heap.IsSliceOf sl .none .none vs) (ps : IsPart vs (some (-1)))
    (h : Q ((n : Int) - 1, -1, n) s) : wpAny (model prog w) A (Builtin.Slice.sliceApplied (.ref sl) (pure (n : Int))) Q E s := by
  obtain ⟨os, hos, hcs, hds⟩ := id hs
  unfold Builtin.Slice.sliceApplied Builtin.Slice.sliceFields
  refine wpAny_bind (wpAny_bind (wpAny_field hos hds (x := .none) rfl (wpAny_bind (wpAny_field hos hds (x := .none) rfl (wpAny_bind (wpAny_field hos hds (x := vs) rfl (wpAny_pure ?_)))))))
  refine wpAny_bind (slicePart_ ps ?_)
  show wpAny _ _ (if ((-1 : Int) == 0) = true then _ else _) _ _ s
  rw [if_neg (by decide)]
  refine wpAny_bind (slicePart_ .none (wpAny_bind (slicePart_ .none (wpAny_bind (wpAny_pure ?_)))))
  show wpAny _ _ (match Builtin.Slice.sliceAdjust none none (-1) (n : Int) with | (lo, hi) => pure (lo, (-1 : Int), Builtin.Slice.slicePlaces lo hi (-1))) _ _ s
  rw [adjust_rev n]
  show wpAny _ _ (pure ((n : Int) - 1, (-1 : Int), Builtin.Slice.slicePlaces ((n : Int) - 1) (-1) (-1))) _ _ s
  rw [places_rev]
  exact wpAny_pure h
theorem fm_congr {α β : Type} {f g : α → Option β} : ∀ {l : List α}, (∀ x ∈ l, f x = g x) → l.filterMap f = l.filterMap g
  | [], _ => rfl
  | x :: l, h => by
    rw [List.filterMap_cons, List.filterMap_cons, h x (by simp), fm_congr fun y hy => h y (List.mem_cons_of_mem _ hy)]
theorem pick_rev (xs : Array Value) : ((List.range xs.size).filterMap fun (m : Nat) => xs[((xs.size : Int) - 1 + (m : Int) * -1).toNat]?).toArray = xs.toList.reverse.toArray := by
  have e : (List.range xs.size).filterMap (fun (m : Nat) => xs[((xs.size : Int) - 1 + (m : Int) * -1).toNat]?) = ((List.range xs.size).map (fun k => xs.size - 1 - k)).filterMap (xs[·]?) := by
    rw [List.filterMap_map]
    refine fm_congr fun k hk => ?_
    have := List.mem_range.mp hk
    have e2 : ((xs.size : Int) - 1 + (k : Int) * -1).toNat = xs.size - 1 - k := by omega
    show xs[((xs.size : Int) - 1 + (k : Int) * -1).toNat]? = xs[xs.size - 1 - k]?
    rw [e2]
  rw [e, PySem.W.krv_range, List.filterMap_reverse, PySem.W.krv_all]
theorem getItem_tuple_rev {t sl : Addr} {items : Array Value} {vs : Value} {Q : Value → Shared → Prop} (ht : IsTup s.heap t items) (hs : s.heap.IsSliceOf sl .none .none vs) (ps : IsPart vs (some (-1)))
    (h : Q (.ref s.heap.objs.size) { s with heap := s.heap.push { cls := .type "tuple", data := .seq items.toList.reverse.toArray } })
    (hsz : items.size ≤ sizeLine) : wpAny (model prog w) A (getItem (.ref t) (.ref sl)) Q E s := by
  have htake : sizeOk (.seq items.toList.reverse.toArray) := by
    show items.toList.reverse.toArray.size ≤ sizeLine
    rw [List.size_toArray, List.length_reverse, Array.length_toList]
    exact hsz
  obtain ⟨os, hos, hcs, hds⟩ := id hs
  have hTs : s.TypeIs (.ref sl) "slice" := ⟨os, hos, hcs⟩
  unfold getItem
  try with_reducible refine wpAny_holding ?_
  first | refine wpAny_bind (wpAny_pure ?_) | skip
  refine wpAny_bind (wpAny_sequenceKey ht.typeIs (by decide) ?_)
  refine wpAny_bind (wpAny_callSpecial?_slot (name := Str.ofString "__getitem__") ht.typeIs PyProof.Rows.slot_tuple_getitem
    (wpAny_call_entry PyProof.Rows.slot_tuple_getitem ht.typeIs entry_tuple_getitem ?_ (args_tuple_getitem _ _)))
  show wpAny _ _ (Builtin.Tuple.tupleItemsOf (.ref t) >>= _) _ _ s
  refine wpAny_bind (tupleItemsOf_ ht ?_)
  refine wpAny_bind (wpAny_typeOf hTs ?_)
  rw [if_pos (by decide)]
  refine wpAny_bind (sliceApplied_rev hs ps ?_)
  have hno : ¬ (((items.size : Int) - 1 == 0 && (-1 : Int) == 1 && items.size == items.size) = true) := by
    intro q
    rw [Bool.and_eq_true, Bool.and_eq_true] at q
    exact absurd q.1.2 (by decide)
  show wpAny _ _ (if ((items.size : Int) - 1 == 0 && (-1 : Int) == 1 && items.size == items.size) = true then _ else _) _ _ s
  rw [if_neg hno, pick_rev]
  first
    | exact wpAny_bind (m := Builtin.Tuple.tupleExact _) (wpAny_newObj_type (wpAny_pure ⟨_, rfl, wpAny_pure h⟩) htake)
    | exact wpAny_bind (m := Builtin.Tuple.tupleExact _) (wpAny_newObj_type (wpAny_bind (wpAny_pure (wpAny_pure ⟨_, rfl, wpAny_pure h⟩))) htake)
    | exact wpAny_bind (wpAny_bind (m := Builtin.Tuple.tupleExact _) (wpAny_newObj_type (wpAny_pure (wpAny_pure ⟨_, rfl, wpAny_pure h⟩)) htake))
    | exact wpAny_bind (wpAny_bind (m := Builtin.Tuple.tupleExact _) (wpAny_newObj_type (wpAny_pure ⟨_, rfl, wpAny_pure h⟩) htake))
end
end HT
namespace Mw
open PySem PySem.Spec PyProof.Rows L2
def tRevT (K : PySem.W.Frag) (te : TE) : TE := fun σ H Q => te σ H fun x H1 => ∃ a xs, x = .ref a ∧ SqT K H1 a xs ∧ ∀ p, H1 p = none → Q (.ref p) (upd H1 p (.tup xs.reverse))
theorem pe_revT {X : Cx} {e : Expr} {te : TE} {k : Nat} {p1 p2 p3 pos : Pos} (he : PE X e te) : PE X (.Subscript e (.Slice none none (some (.UnaryOp .USub (.Constant (.int 1) k p1) p2)) p3) pos) (tRevT X.K te) := by
  refine ⟨fun pins s σ H Q I h => ?_⟩
  refine Subscript_ (thn (he.run pins s σ H _ I h) fun v s1 ⟨x, H1, I1, r1, q1⟩ => ?_)
  obtain ⟨a, xs, ex, hx, q⟩ := q1
  subst ex
  cases r1
  have hst : PO X (some (.UnaryOp .USub (.Constant (.int 1) k p1) p2)) (tPart (tUn (rU fun i => .int (-i)) (tC (.int 1)))) := po_some (pe_un un_neg pe_int)
  refine wpAny_Slice (thn (po_none.run pins s1 σ H1 (fun o H2 => o = none ∧ H2 = H1) I1 ⟨rfl, rfl⟩) fun vl s2 ⟨l, H2, I2, pl, el, e2⟩ => ?_)
  subst el e2
  refine thn (po_none.run pins s2 σ H2 (fun o H3 => o = none ∧ H3 = H2) I2 ⟨rfl, rfl⟩) fun vu s3 ⟨u, H3, I3, pu, eu, e3⟩ => ?_
  subst eu e3
  refine thn (hst.run pins s3 σ H3 (fun o H4 => o = some (-1) ∧ H4 = H3) I3 ⟨1, rfl, -1, rfl, rfl, rfl⟩) fun vs s4 ⟨o, H4, I4, ps, eo, e4⟩ => ?_
  subst eo e4
  cases pl
  cases pu
  have I5 : Inv X pins σ H4 { s4 with heap := s4.heap.push { cls := .type "slice", data := .fields #[.none, .none, vs] } } := I4.kept (t' := s4.toks) fun b ob q => Heap.get?_push_of_some _ q
  obtain ⟨its, r, ht, hz⟩ := I5.tuple hx
  have hlen := r.length
  show wpAny (model X.prog X.w) X.A (subscriptTail e (.Slice none none (some (.UnaryOp .USub (.Constant (.int 1) k p1) p2)) p3) (.ref a) (.ref s4.heap.objs.size)) (EP X pins σ Q) X.xe { s4 with heap := s4.heap.push { cls := .type "slice", data := .fields #[.none, .none, vs] } }
  refine tail_any (ops := [.ref a, .ref s4.heap.objs.size]) ht.typeIs PyProof.Rows.slot_tuple_getitem.lookup ?_ (by with_unfolding_all rfl)
  refine HT.getItem_tuple_rev ht (Heap.IsSliceOf.new _ .none .none vs) ps ?_ (by rw [List.size_toArray]; omega)
  refine ⟨.ref _, _, I5.laid (t' := s4.toks) (o := .tup xs.reverse) (fun b ob q => Heap.get?_push_of_some _ q) (Nat.le_refl _) ?_, rfl, q _ (I5.hok.fresh (Nat.le_refl _))⟩
  exact ⟨by rw [List.length_reverse]; exact hz, _, r.reverse, IsTup.new _ _⟩
theorem rd_revT {K : PySem.W.Frag} {te : TE} {σ : L2.St} {H : Hp} {Q : VK} (h : te σ H fun x H1 => ∃ a xs, x = .ref a ∧ SqT K H1 a xs ∧ ∀ p, H1 p = none → Q (.ref p) (upd H1 p (.tup xs.reverse))) : tRevT K te σ H Q := h
end Mw

/-! R1 -/
/-! Readings, frames, data that may hold lists and dicts apart from some objects that change. -/
namespace Mw
open PySem L2
theorem rd_ite {b : Bool} {A B : Prop} (h1 : b = true → A) (h0 : b = false → B) : if b = true then A else B := by
  cases b
  · rw [if_neg Bool.false_ne_true]
    exact h0 rfl
  · rw [if_pos rfl]
    exact h1 rfl
section
variable {K : PySem.W.Frag}
theorem rd_ixT {H : Hp} {Q : VK} {a : Addr} {xs : List V} {i : Int} {v : V} (h : H a = some (.tup xs)) (e : atI xs i = some v) (q : Q v H) : rIxT K (.ref a) (.int i) H Q := ⟨a, xs, i, v, rfl, rfl, SqT.of h, e, q⟩
theorem rd_ixL {H : Hp} {Q : VK} {a : Addr} {xs : List V} {i : Int} {v : V} (h : H a = some (.lst xs)) (e : atI xs i = some v) (q : Q v H) : rIxL K (.ref a) (.int i) H Q := ⟨a, xs, i, v, rfl, rfl, SqL.of h, e, q⟩
end
theorem take_snoc {α : Type} {L : List α} {i : Nat} {q : α} (h : L[i]? = some q) : L.take (i + 1) = L.take i ++ [q] := by
  rw [List.take_add_one, h]
  rfl
theorem rd_gset {Q : L2.St → Hp → Prop} {σ σ' : L2.St} {i : Nat} {v : V} {H : Hp} (h : List.set σ i (some v) = σ') (q : Q σ' H) : L2.gName i v σ H Q := by
  subst h
  exact q
theorem rd_dput {td ty tv : TE} {D : Ends} {σ : L2.St} {H : Hp} (h : tv σ H fun v H1 => td σ H1 fun x H2 => ty σ H2 fun y H3 => ∃ a H4, x = V.ref a ∧ DPut H3 a y v H4 ∧ D.nx σ H4) : sDPut td ty tv D σ H := h
theorem rd_dget {td ty : TE} {σ : L2.St} {H : Hp} {Q : VK} (h : td σ H fun x H1 => ty σ H1 fun y H2 => ∃ a v, x = V.ref a ∧ DGet H2 a y (some v) ∧ Q v H2) : tDGet td ty σ H Q := h
theorem rd_chain {r r' : R2} {ta tb tc : TE} {σ : L2.St} {H : Hp} {Q : VK} (h : ta σ H fun x H1 => tb σ H1 fun y H2 => r x y H2 fun z H3 => ∃ k, z = V.bl k ∧ if k = true then tc σ H3 fun w' H4 => r' y w' H4 Q else Q (V.bl false) H3) : tChain r r' ta tb tc σ H Q := h
theorem rd_gsub {to ti : TE} {t : TSet} {v : V} {σ : L2.St} {H : Hp} {Q : L2.St → Hp → Prop} (h : to σ H fun o H1 => ti σ H1 fun i H2 => t o i v H2 fun H3 => Q σ H3) : gSub to ti t v σ H Q := h
theorem rd_setL {a : Addr} {xs : List V} {i : Int} {j : Nat} {v : V} {H : Hp} {Q : Hp → Prop} (h : H a = some (.lst xs)) (e : ixN xs.length i = some j) (q : Q (upd H a (.lst (xs.set j v)))) : rSetL (.ref a) (.int i) v H Q := ⟨a, xs, i, j, rfl, rfl, h, e, q⟩
section
variable {σ : L2.St} {H : Hp} {Q : VK} {K : PySem.W.Frag}
theorem rd_bm {n : String} {r : V → List V → Hp → VK → Prop} {to : TE} {t : TA} (h : to σ H fun x H1 => tyV K n x H1 ∧ t σ H1 fun xs H2 => r x xs H2 Q) : tBM K n r to t σ H Q := h
theorem rd_bm0 {n : String} {r : V → List V → Hp → VK → Prop} {to : TE} (h : to σ H fun x H1 => tyV K n x H1 ∧ r x [] H1 Q) : tBM0 K n r to σ H Q := h
theorem rd_append {l : Addr} {xs : List V} {y : V} (h : H l = some (.lst xs)) (hl : xs.length < sizeLine) (q : Q .non (upd H l (.lst (xs ++ [y])))) : rAppend (.ref l) [y] H Q := ⟨l, xs, y, rfl, rfl, h, hl, q⟩
end
theorem rd_rng1 {ta : TA} {σ : L2.St} {H : Hp} {R : It → Hp → Prop} (h : ta σ H fun vs H1 => ∃ j : Int, vs = [.int j] ∧ -(2 ^ 62) ≤ j ∧ j < 2 ^ 62 ∧ R (Itr 0 j.toNat) H1) : iRng1 ta σ H R := h
theorem rd_rng2 {ta : TA} {σ : L2.St} {H : Hp} {R : It → Hp → Prop} (h : iRng2 ta σ H R) : iRng2 ta σ H R := h
theorem rd_ilist {K : PySem.W.Frag} {te : TE} {σ : L2.St} {H : Hp} {R : It → Hp → Prop} (h : te σ H fun x H1 => ∃ a, x = .ref a ∧ (∃ xs, SqL K H1 a xs) ∧ R (Itl K a) H1) : iList K te σ H R := h
theorem rd_itup {K : PySem.W.Frag} {te : TE} {σ : L2.St} {H : Hp} {R : It → Hp → Prop} (h : te σ H fun x H1 => ∃ a, x = .ref a ∧ (∃ xs, SqT K H1 a xs) ∧ R (Itt K a) H1) : iTup K te σ H R := h
theorem rd_istr {te : TE} {σ : L2.St} {H : Hp} {R : It → Hp → Prop} (h : te σ H fun v H1 => ∃ x, v = .str x ∧ R (Its x) H1) : iStr te σ H R := h
theorem rd_make {C : Addr} {sp : Sp} {dvs : List V} {E : XK} {t : TA} {σ : L2.St} {H : Hp} {Q : VK} (h : t σ H fun vs H1 => ∀ x dx, H1 x = none → H1 dx = none → dx ≠ x → sp (.ref x :: (vs ++ dvs)) (upd (upd H1 dx (.own x)) x (.ins C dx [])) (fun v H2 => v = .non ∧ Q (.ref x) H2) E) : tMake C sp dvs E t σ H Q := h
theorem rd_no {b : Bool} {A B : Prop} (e : b = false) (h : B) : if b = true then A else B := by
  rw [e]
  exact iteF h
theorem rd_yes {b : Bool} {A B : Prop} (e : b = true) (h : A) : if b = true then A else B := by
  rw [e]
  exact iteT h
theorem mapint_get {U : List Int} {i : Nat} {y : V} (h : (U.map V.int)[i]? = some y) : ∃ u, U[i]? = some u ∧ y = V.int u := by
  rw [List.getElem?_map] at h
  cases e : U[i]? with
  | none =>
    rw [e] at h
    cases h
  | some u =>
    rw [e] at h
    exact ⟨u, rfl, (Option.some.inj h).symm⟩
theorem rd_break {D : Ends} {σ : L2.St} {H : Hp} (h : D.bk σ H) : tBreak D σ H := h
theorem rd_tyes {σ : L2.St} {H : Hp} {Q : Bool → Hp → Prop} (q : Q true H) : tYes σ H Q := q
theorem rd_aug {i : Nat} {te : TE} {ti : TIp} {D : Ends} {σ : L2.St} {H : Hp} {x : V} (h : σ[i]? = some (some x)) (q : te σ H fun y H1 => ti x y H1 fun z H2 => D.nx (σ.set i (some z)) H2) : tAug i te ti D σ H := ⟨x, h, q⟩
theorem rd_callS {sp : Sp} {E : L2.St → XK} {t : TA} {σ : L2.St} {H : Hp} {Q : VK} (h : t σ H fun vs H1 => sp vs H1 Q (E σ)) : tCallS sp E t σ H Q := h
theorem rd_ifx {t : TT} {ta tb : TE} {σ : L2.St} {H : Hp} {Q : VK} (h : t σ H fun c H1 => if c = true then ta σ H1 Q else tb σ H1 Q) : tIf t ta tb σ H Q := h
section
variable {K : PySem.W.Frag}
theorem rd_izip {ta : TA} {σ : L2.St} {H : Hp} {R : It → Hp → Prop} (h : ta σ H fun vs H1 => ∃ a b xs ys, vs = [.ref a, .ref b] ∧ ((SqL K H1 a xs ∧ SqL K H1 b ys ∧ R (Itz K a b) H1) ∨ (SqT K H1 a xs ∧ SqT K H1 b ys ∧ R (RZ.ItzT K a b) H1))) : RZ.iZipA K ta σ H R := h
end
theorem small {n : Nat} (h : n ≤ 1000000) : n ≤ sizeLine := Nat.le_trans h (by decide)
theorem small' {n : Nat} (h : n ≤ 1000000) : n < sizeLine := Nat.lt_of_le_of_lt h (by decide)
/-- what comes next is due for all that S tells: it stands once -/
theorem rd_S {te : TE} {σ : L2.St} {H : Hp} {Q : VK} (S : V → Hp → Prop) (hS : ∀ x H', S x H' → Q x H') (h : ∀ Q' : VK, (∀ x H', S x H' → Q' x H') → te σ H Q') : te σ H Q := h Q hS
theorem fn_no {P : Program} {w : World} {K : PySem.W.Frag} {mg : Str → Option Value} {base : Heap} {CX : CXT} {k : Nat} {f : Addr} {fd : FuncData} {ps : List Str} {sp : Sp} (h : ∀ vs H Q E, ¬ sp vs H Q E) : FnOk P w K mg base CX k f fd ps sp :=
  ⟨fun vs H Q E z => (h _ _ _ _ z).elim, fun A outer s H args us vs Q E hr e0 hb r z => (h _ _ _ _ z).elim⟩
theorem at_of {α : Type} {xs : List α} {i : Int} {j : Nat} {v : α} (e : i = (j : Int)) (h : xs[j]? = some v) : atI xs i = some v := by
  subst e
  exact atI_nat h
theorem at0 {α : Type} {x : α} {xs : List α} : atI (x :: xs) 0 = some x := at_of (j := 0) rfl rfl
theorem at0m {x : Int} {xs : List Int} : atI ((x :: xs).map V.int) 0 = some (V.int x) := at_of (j := 0) rfl rfl
theorem ix_of {n j : Nat} {i : Int} (e : i = (j : Int)) (h : j < n) : ixN n i = some j := by
  subst e
  unfold ixN
  rw [if_pos (by omega), if_pos (by omega), Int.toNat_natCast]
theorem ix0m {x : Int} {xs : List Int} : ixN ((x :: xs).map V.int).length 0 = some 0 := ix_of rfl (by simp)
/-! ### frames -/
/-- all is as it was but what stands at some places -/
def Fr (M : List Addr) (H H' : Hp) : Prop := ∀ b o, b ∉ M → H b = some o → H' b = some o
theorem Fr.refl {M : List Addr} {H : Hp} : Fr M H H := fun _ _ _ e => e
theorem Fr.same {M : List Addr} {H H' : Hp} (s : Same H H') : Fr M H H' := fun b o _ e => s b o e
theorem Fr.trans {M : List Addr} {H H1 H2 : Hp} (x : Fr M H H1) (y : Fr M H1 H2) : Fr M H H2 := fun b o n e => y b o n (x b o n e)
theorem Fr.more {M N : List Addr} {H H' : Hp} (x : Fr M H H') (h : ∀ b ∈ M, b ∈ N) : Fr N H H' := fun b o n e => x b o (fun z => n (h b z)) e
theorem Fr.mut {a : Addr} {H : Hp} {o : HO} : Fr [a] H (upd H a o) := fun b u n e => (upd_ne (by simpa using n)).trans e
theorem Fr.mem {a : Addr} {M : List Addr} {H : Hp} {o : HO} (h : a ∈ M) : Fr M H (upd H a o) := fun b u n e => (upd_ne (fun z => n (by rw [z]; exact h))).trans e
theorem Fr.free {M : List Addr} {H H' : Hp} {q : Addr} (x : Fr M H H') (n : H' q = none) (hq : q ∉ M) : H q = none := by
  cases e : H q with
  | none => rfl
  | some o => rw [x q o hq e] at n; cases n
/-- tuples stay -/
def KT (H H' : Hp) : Prop := ∀ a xs, H a = some (.tup xs) → H' a = some (.tup xs)
theorem KT.refl {H : Hp} : KT H H := fun _ _ e => e
theorem KT.trans {H H1 H2 : Hp} (x : KT H H1) (y : KT H1 H2) : KT H H2 := fun a xs e => y a xs (x a xs e)
theorem KT.same {H H' : Hp} (s : Same H H') : KT H H' := fun a xs e => s _ _ e
theorem KT.fr {M : List Addr} {H H' : Hp} (x : Fr M H H') (h : ∀ b ∈ M, ∀ xs, H b ≠ some (.tup xs)) : KT H H' := fun a xs e => x a _ (fun z => h a z xs e) e
theorem KT.mut {a : Addr} {H : Hp} {o u : HO} (h : H a = some u) (hu : ∀ xs, u ≠ .tup xs) : KT H (upd H a o) := fun b xs e => (upd_ne (ne_of e h (fun z => hu xs z.symm))).trans e
/-- both -/
structure FK (M : List Addr) (H H' : Hp) : Prop where
  fr : Fr M H H'
  kt : KT H H'
theorem FK.refl {M : List Addr} {H : Hp} : FK M H H := ⟨Fr.refl, KT.refl⟩
theorem FK.trans {M : List Addr} {H H1 H2 : Hp} (x : FK M H H1) (y : FK M H1 H2) : FK M H H2 := ⟨x.1.trans y.1, x.2.trans y.2⟩
theorem FK.same {M : List Addr} {H H' : Hp} (s : Same H H') : FK M H H' := ⟨Fr.same s, KT.same s⟩
theorem FK.new {M : List Addr} {H : Hp} {q : Addr} {o : HO} (h : H q = none) : FK M H (upd H q o) := FK.same (same_new h)
theorem FK.put {M : List Addr} {H H' : Hp} {q : Addr} {o : HO} (x : FK M H H') (h : H' q = none) : FK M H (upd H' q o) := x.trans (FK.new h)
theorem FK.mut {M : List Addr} {a : Addr} {H : Hp} {o u : HO} (m : a ∈ M) (h : H a = some u) (hu : ∀ xs, u ≠ .tup xs) : FK M H (upd H a o) := ⟨Fr.mem m, KT.mut h hu⟩
theorem FK.mutL {M : List Addr} {a : Addr} {H : Hp} {o : HO} {us : List V} (m : a ∈ M) (h : H a = some (.lst us)) : FK M H (upd H a o) := FK.mut m h fun _ z => by cases z
theorem FK.more {M N : List Addr} {H H' : Hp} (x : FK M H H') (h : ∀ b ∈ M, b ∈ N) : FK N H H' := ⟨x.1.more h, x.2⟩
theorem FK.at {M : List Addr} {H H' : Hp} {a : Addr} {o : HO} (x : FK M H H') (n : a ∉ M) (h : H a = some o) : H' a = some o := x.1 a o n h
theorem FK.free {M : List Addr} {H H' : Hp} {q : Addr} (x : FK M H H') (n : H' q = none) (hq : q ∉ M) : H q = none := x.1.free n hq
/-- an object that was not there changes as it likes -/
theorem FK.own {M : List Addr} {H0 H : Hp} {D : Addr} {us : List V} {o : HO} (x : FK M H0 H) (n : H0 D = none) (h : H D = some (.lst us)) : FK M H0 (upd H D o) :=
  ⟨fun b u nb e => (upd_ne (ne_of_none e n)).trans (x.1 b u nb e), fun b xs e => (upd_ne (ne_of_none e n)).trans (x.2 b xs e)⟩
/-! ### data -/
mutual
def Dt (CP : Addr → Prop) (M : List Addr) (H : Hp) : PyData → V → Prop
  | .none, v => v = .non
  | .bool b, v => v = .bl b
  | .int i, v => v = .int i
  | .str s, v => v = .str s
  | .list ds, v => ∃ a xs, v = .ref a ∧ a ∉ M ∧ H a = some (.lst xs) ∧ DtAll CP M H ds xs
  | .tuple ds, v => ∃ a xs, v = .ref a ∧ H a = some (.tup xs) ∧ DtAll CP M H ds xs
  | .dict _, v => ∃ a, v = .ref a ∧ a ∉ M ∧ (H a = some (.dK []) ∨ ∃ C dx fs, CP C ∧ H a = some (.ins C dx fs))
def DtAll (CP : Addr → Prop) (M : List Addr) (H : Hp) : List PyData → List V → Prop
  | [], xs => xs = []
  | d :: ds, xs => ∃ x r, xs = x :: r ∧ Dt CP M H d x ∧ DtAll CP M H ds r
end
section
variable {CP : Addr → Prop} {M : List Addr} {H H' : Hp} {K : PySem.W.Frag}
mutual
theorem Dt.keep (k : FK M H H') : ∀ (d : PyData) (v : V), Dt CP M H d v → Dt CP M H' d v
  | .none, v, h => by simpa only [Dt] using h
  | .bool b, v, h => by simpa only [Dt] using h
  | .int i, v, h => by simpa only [Dt] using h
  | .str s, v, h => by simpa only [Dt] using h
  | .list ds, v, h => by
    simp only [Dt] at h ⊢
    obtain ⟨a, xs, e, n, ha, r⟩ := h
    exact ⟨a, xs, e, n, k.1 a _ n ha, DtAll.keep k ds xs r⟩
  | .tuple ds, v, h => by
    simp only [Dt] at h ⊢
    obtain ⟨a, xs, e, ha, r⟩ := h
    exact ⟨a, xs, e, k.2 a _ ha, DtAll.keep k ds xs r⟩
  | .dict _, v, h => by
    simp only [Dt] at h ⊢
    obtain ⟨a, e, n, ha | ⟨C, dx, fs, c, ha⟩⟩ := h
    · exact ⟨a, e, n, .inl (k.1 a _ n ha)⟩
    · exact ⟨a, e, n, .inr ⟨C, dx, fs, c, k.1 a _ n ha⟩⟩
theorem DtAll.keep (k : FK M H H') : ∀ (ds : List PyData) (xs : List V), DtAll CP M H ds xs → DtAll CP M H' ds xs
  | [], xs, h => by simpa only [DtAll] using h
  | d :: ds, xs, h => by
    simp only [DtAll] at h ⊢
    obtain ⟨x, r, e, h1, h2⟩ := h
    exact ⟨x, r, e, Dt.keep k d x h1, DtAll.keep k ds r h2⟩
end
theorem Dt.k {d : PyData} {v : V} (h : Dt CP M H d v) (k : FK M H H') : Dt CP M H' d v := Dt.keep k d v h
theorem DtAll.k {d : List PyData} {v : List V} (h : DtAll CP M H d v) (k : FK M H H') : DtAll CP M H' d v := DtAll.keep k d v h
theorem Dt.s {d : PyData} {v : V} (h : Dt CP M H d v) (k : Same H H') : Dt CP M H' d v := Dt.keep (FK.same k) d v h
theorem DtAll.s {d : List PyData} {v : List V} (h : DtAll CP M H d v) (k : Same H H') : DtAll CP M H' d v := DtAll.keep (FK.same k) d v h
theorem dtAll_iff : ∀ (ds : List PyData) (xs : List V), DtAll CP M H ds xs ↔ ds.length = xs.length ∧ ∀ (i : Nat) d x, ds[i]? = some d → xs[i]? = some x → Dt CP M H d x
  | [], xs => by
    simp only [DtAll]
    constructor
    · rintro rfl
      exact ⟨rfl, fun i d x h _ => by simp at h⟩
    · rintro ⟨h, _⟩
      exact List.length_eq_zero_iff.mp h.symm
  | d :: ds, xs => by
    simp only [DtAll]
    constructor
    · rintro ⟨x, r, rfl, h1, h2⟩
      obtain ⟨hl, hi⟩ := (dtAll_iff ds r).mp h2
      refine ⟨by simp [hl], fun i d' x' e1 e2 => ?_⟩
      cases i with
      | zero =>
        simp only [List.getElem?_cons_zero, Option.some.injEq] at e1 e2
        subst e1 e2
        exact h1
      | succ i =>
        simp only [List.getElem?_cons_succ] at e1 e2
        exact hi i d' x' e1 e2
    · rintro ⟨hl, hi⟩
      cases xs with
      | nil => simp at hl
      | cons x r => exact ⟨x, r, rfl, hi 0 d x rfl rfl, (dtAll_iff ds r).mpr ⟨by simpa using hl, fun i d' x' e1 e2 => hi (i + 1) d' x' (by simpa using e1) (by simpa using e2)⟩⟩
theorem DtAll.len {ds : List PyData} {xs : List V} (h : DtAll CP M H ds xs) : ds.length = xs.length := ((dtAll_iff ds xs).mp h).1
theorem DtAll.get {ds : List PyData} {xs : List V} (h : DtAll CP M H ds xs) {i : Nat} {d : PyData} (e : ds[i]? = some d) : ∃ x, xs[i]? = some x ∧ Dt CP M H d x := by
  obtain ⟨hl, hi⟩ := (dtAll_iff ds xs).mp h
  have hlt := (List.getElem?_eq_some_iff.mp e).1
  have hx : xs[i]? = some (xs[i]'(by omega)) := by simp [show i < xs.length by omega]
  exact ⟨_, hx, hi i d _ e hx⟩
theorem DtAll.get' {ds : List PyData} {xs : List V} (h : DtAll CP M H ds xs) {i : Nat} {x : V} (e : xs[i]? = some x) : ∃ d, ds[i]? = some d ∧ Dt CP M H d x := by
  obtain ⟨hl, hi⟩ := (dtAll_iff ds xs).mp h
  have hlt := (List.getElem?_eq_some_iff.mp e).1
  have hx : ds[i]? = some (ds[i]'(by omega)) := by simp [show i < ds.length by omega]
  exact ⟨_, hx, hi i _ x hx e⟩
theorem DtAll.append {ds es : List PyData} {xs ys : List V} (h1 : DtAll CP M H ds xs) (h2 : DtAll CP M H es ys) : DtAll CP M H (ds ++ es) (xs ++ ys) := by
  induction ds generalizing xs with
  | nil =>
    simp only [DtAll] at h1
    subst h1
    exact h2
  | cons d ds ih =>
    simp only [DtAll] at h1
    obtain ⟨x, r, rfl, a, b⟩ := h1
    show DtAll CP M H (d :: (ds ++ es)) _
    simp only [DtAll]
    exact ⟨x, r ++ ys, rfl, a, ih b⟩
theorem DtAll.take {ds : List PyData} {xs : List V} (h : DtAll CP M H ds xs) (n : Nat) : DtAll CP M H (ds.take n) (xs.take n) := by
  obtain ⟨hl, hi⟩ := (dtAll_iff ds xs).mp h
  refine (dtAll_iff _ _).mpr ⟨by simp [hl], fun i d x e1 e2 => ?_⟩
  rw [List.getElem?_take] at e1 e2
  by_cases q : i < n
  · rw [if_pos q] at e1 e2
    exact hi i d x e1 e2
  · rw [if_neg q] at e1
    cases e1
theorem DtAll.drop {ds : List PyData} {xs : List V} (h : DtAll CP M H ds xs) (n : Nat) : DtAll CP M H (ds.drop n) (xs.drop n) := by
  obtain ⟨hl, hi⟩ := (dtAll_iff ds xs).mp h
  refine (dtAll_iff _ _).mpr ⟨by simp [hl], fun i d x e1 e2 => ?_⟩
  rw [List.getElem?_drop] at e1 e2
  exact hi _ d x e1 e2
theorem dtAll_nil : DtAll CP M H [] [] := by simp only [DtAll]
theorem dtAll_cons {d : PyData} {ds : List PyData} {x : V} {xs : List V} (h1 : Dt CP M H d x) (h2 : DtAll CP M H ds xs) : DtAll CP M H (d :: ds) (x :: xs) := by
  simp only [DtAll]
  exact ⟨x, xs, rfl, h1, h2⟩
theorem DtAll.snoc {d : PyData} {ds : List PyData} {x : V} {xs : List V} (h1 : DtAll CP M H ds xs) (h2 : Dt CP M H d x) : DtAll CP M H (ds ++ [d]) (xs ++ [x]) := h1.append (dtAll_cons h2 dtAll_nil)
theorem dt_int {i : Int} : Dt CP M H (.int i) (.int i) := by simp only [Dt]
theorem dt_str {s : Str} : Dt CP M H (.str s) (.str s) := by simp only [Dt]
theorem dt_bl {b : Bool} : Dt CP M H (.bool b) (.bl b) := by simp only [Dt]
theorem dt_non : Dt CP M H .none .non := by simp only [Dt]
theorem dt_tup {a : Addr} {ds : List PyData} {xs : List V} (h : H a = some (.tup xs)) (r : DtAll CP M H ds xs) : Dt CP M H (.tuple ds) (.ref a) := by
  simp only [Dt]
  exact ⟨a, xs, rfl, h, r⟩
theorem dt_lst {a : Addr} {ds : List PyData} {xs : List V} (n : a ∉ M) (h : H a = some (.lst xs)) (r : DtAll CP M H ds xs) : Dt CP M H (.list ds) (.ref a) := by
  simp only [Dt]
  exact ⟨a, xs, rfl, n, h, r⟩
theorem dt_dic {a : Addr} {kv : List (PyData × PyData)} (n : a ∉ M) (h : H a = some (.dK [])) : Dt CP M H (.dict kv) (.ref a) := by
  simp only [Dt]
  exact ⟨a, rfl, n, .inl h⟩
theorem dt_tup' {v : V} {ds : List PyData} (h : Dt CP M H (.tuple ds) v) : ∃ a xs, v = .ref a ∧ H a = some (.tup xs) ∧ DtAll CP M H ds xs := by
  simpa only [Dt] using h
theorem dt_lst' {v : V} {ds : List PyData} (h : Dt CP M H (.list ds) v) : ∃ a xs, v = .ref a ∧ a ∉ M ∧ H a = some (.lst xs) ∧ DtAll CP M H ds xs := by
  simpa only [Dt] using h
theorem dt_int' {v : V} {i : Int} (h : Dt CP M H (.int i) v) : v = .int i := by simpa only [Dt] using h
theorem dt_str' {v : V} {i : Str} (h : Dt CP M H (.str i) v) : v = .str i := by simpa only [Dt] using h
theorem dt_bl' {v : V} {b : Bool} (h : Dt CP M H (.bool b) v) : v = .bl b := by simpa only [Dt] using h
theorem dt_non' {v : V} (h : Dt CP M H .none v) : v = .non := by simpa only [Dt] using h
theorem dt_dic' {v : V} {kv : List (PyData × PyData)} (h : Dt CP M H (.dict kv) v) : ∃ a, v = .ref a ∧ a ∉ M := by
  simp only [Dt] at h
  obtain ⟨a, e, n, _⟩ := h
  exact ⟨a, e, n⟩
theorem dt_ints : ∀ U : List Int, DtAll CP M H (U.map PyData.int) (U.map V.int)
  | [] => dtAll_nil
  | u :: U => dtAll_cons dt_int (dt_ints U)
theorem dt_ints' : ∀ {U : List Int} {xs : List V}, DtAll CP M H (U.map PyData.int) xs → xs = U.map V.int
  | [], xs, h => by simpa only [List.map_nil, DtAll] using h
  | u :: U, xs, h => by
    rw [List.map_cons] at h
    simp only [DtAll] at h
    obtain ⟨x, r, rfl, h1, h2⟩ := h
    rw [dt_int' h1, dt_ints' h2, List.map_cons]
/-! ### kinds -/
theorem Dt.ty (W : ∀ C, CP C → WebTy K C) (d : PyData) (v : V) (h : Dt CP M H d v) : ∃ t, TyX K H v t ∧ PySem.W.kitOne K t (.type "int") = some (isI d) ∧ PySem.W.kitOne K t (.type "bool") = some (isB d) ∧ PySem.W.kitOne K t (.type "tuple") = some (isT d) ∧
    PySem.W.kitOne K t (.type "list") = some (isL d) ∧ PySem.W.kitOne K t (.type "str") = some (isS d) := by
  have g : ∀ {C p : Addr} {d : PyData} {v : V}, WebTy K C → Tp C p H d v → ∃ t, TyX K H v t ∧ PySem.W.kitOne K t (.type "int") = some (isI d) ∧ PySem.W.kitOne K t (.type "bool") = some (isB d) ∧ PySem.W.kitOne K t (.type "tuple") = some (isT d) ∧
    PySem.W.kitOne K t (.type "list") = some (isL d) ∧ PySem.W.kitOne K t (.type "str") = some (isS d) := fun W h => h.ty W
  cases d with
  | none =>
    rw [dt_non' h]
    exact ⟨_, .base .non, kit_ty (show kitB "NoneType" "int" = some false from by decide +kernel), kit_ty (show kitB "NoneType" "bool" = some false from by decide +kernel), kit_ty (show kitB "NoneType" "tuple" = some false from by decide +kernel), kit_ty (show kitB "NoneType" "list" = some false from by decide +kernel), kit_ty (show kitB "NoneType" "str" = some false from by decide +kernel)⟩
  | bool b =>
    rw [dt_bl' h]
    exact ⟨_, .base (.bl b), kit_ty (show kitB "bool" "int" = some true from by decide +kernel), kit_ty (show kitB "bool" "bool" = some true from by decide +kernel), kit_ty (show kitB "bool" "tuple" = some false from by decide +kernel), kit_ty (show kitB "bool" "list" = some false from by decide +kernel), kit_ty (show kitB "bool" "str" = some false from by decide +kernel)⟩
  | int i =>
    rw [dt_int' h]
    exact ⟨_, .base (.int i), kit_ty (show kitB "int" "int" = some true from by decide +kernel), kit_ty (show kitB "int" "bool" = some false from by decide +kernel), kit_ty (show kitB "int" "tuple" = some false from by decide +kernel), kit_ty (show kitB "int" "list" = some false from by decide +kernel), kit_ty (show kitB "int" "str" = some false from by decide +kernel)⟩
  | str s =>
    rw [dt_str' h]
    exact ⟨_, .base (.str s), kit_ty (show kitB "str" "int" = some false from by decide +kernel), kit_ty (show kitB "str" "bool" = some false from by decide +kernel), kit_ty (show kitB "str" "tuple" = some false from by decide +kernel), kit_ty (show kitB "str" "list" = some false from by decide +kernel), kit_ty (show kitB "str" "str" = some true from by decide +kernel)⟩
  | list ds =>
    obtain ⟨a, xs, rfl, n, ha, r⟩ := dt_lst' h
    exact ⟨_, .base (.lst ha), kit_ty (show kitB "list" "int" = some false from by decide +kernel), kit_ty (show kitB "list" "bool" = some false from by decide +kernel), kit_ty (show kitB "list" "tuple" = some false from by decide +kernel), kit_ty (show kitB "list" "list" = some true from by decide +kernel), kit_ty (show kitB "list" "str" = some false from by decide +kernel)⟩
  | tuple ds =>
    obtain ⟨a, xs, rfl, ha, r⟩ := dt_tup' h
    exact ⟨_, .base (.tup ha), kit_ty (show kitB "tuple" "int" = some false from by decide +kernel), kit_ty (show kitB "tuple" "bool" = some false from by decide +kernel), kit_ty (show kitB "tuple" "tuple" = some true from by decide +kernel), kit_ty (show kitB "tuple" "list" = some false from by decide +kernel), kit_ty (show kitB "tuple" "str" = some false from by decide +kernel)⟩
  | dict kvs =>
    simp only [Dt] at h
    obtain ⟨a, rfl, n, ha | ⟨C, dx, fs, c, ha⟩⟩ := h
    · exact ⟨_, .base (.dK ha), kit_ty (show kitB "dict" "int" = some false from by decide +kernel), kit_ty (show kitB "dict" "bool" = some false from by decide +kernel), kit_ty (show kitB "dict" "tuple" = some false from by decide +kernel), kit_ty (show kitB "dict" "list" = some false from by decide +kernel), kit_ty (show kitB "dict" "str" = some false from by decide +kernel)⟩
    · exact ⟨_, .base (.ins ha (W C c).cl (W C c).ca (W C c).cg (W C c).ct (W C c).co), (W C c).ki, (W C c).kb, (W C c).kt, (W C c).kl, (W C c).ks⟩
theorem dt_isI (W : ∀ C, CP C → WebTy K C) {d : PyData} {v : V} {Q : VK} (h : Dt CP M H d v) (q : Q (.bl (isI d)) H) : rIsi K [v, .ty "int"] H Q := by
  obtain ⟨t, ty, k, _⟩ := h.ty W
  exact ⟨v, _, t, _, _, rfl, .ty _, ty, k, q⟩
theorem dt_isB (W : ∀ C, CP C → WebTy K C) {d : PyData} {v : V} {Q : VK} (h : Dt CP M H d v) (q : Q (.bl (isB d)) H) : rIsi K [v, .ty "bool"] H Q := by
  obtain ⟨t, ty, _, k, _⟩ := h.ty W
  exact ⟨v, _, t, _, _, rfl, .ty _, ty, k, q⟩
theorem dt_isT (W : ∀ C, CP C → WebTy K C) {d : PyData} {v : V} {Q : VK} (h : Dt CP M H d v) (q : Q (.bl (isT d)) H) : rIsi K [v, .ty "tuple"] H Q := by
  obtain ⟨t, ty, _, _, k, _⟩ := h.ty W
  exact ⟨v, _, t, _, _, rfl, .ty _, ty, k, q⟩
theorem dt_isL (W : ∀ C, CP C → WebTy K C) {d : PyData} {v : V} {Q : VK} (h : Dt CP M H d v) (q : Q (.bl (isL d)) H) : rIsi K [v, .ty "list"] H Q := by
  obtain ⟨t, ty, _, _, _, k, _⟩ := h.ty W
  exact ⟨v, _, t, _, _, rfl, .ty _, ty, k, q⟩
theorem dt_isS (W : ∀ C, CP C → WebTy K C) {d : PyData} {v : V} {Q : VK} (h : Dt CP M H d v) (q : Q (.bl (isS d)) H) : rIsi K [v, .ty "str"] H Q := by
  obtain ⟨t, ty, _, _, _, _, k⟩ := h.ty W
  exact ⟨v, _, t, _, _, rfl, .ty _, ty, k, q⟩
/-! ### plain data -/
mutual
def plainD : PyData → Bool
  | .none | .bool _ | .int _ | .str _ => true
  | .tuple ds => plainAll ds
  | .list _ | .dict _ => false
def plainAll : List PyData → Bool
  | [] => true
  | d :: ds => plainD d && plainAll ds
end
theorem plainAll_get : ∀ {ds : List PyData} {i : Nat} {d : PyData}, plainAll ds = true → ds[i]? = some d → plainD d = true
  | [], i, d, _, e => by simp at e
  | c :: ds, 0, d, h, e => by
    simp only [plainAll, Bool.and_eq_true] at h
    cases e
    exact h.1
  | c :: ds, i + 1, d, h, e => by
    simp only [plainAll, Bool.and_eq_true] at h
    exact plainAll_get h.2 (by simpa using e)
theorem plain_app : ∀ a b : List PyData, plainAll (a ++ b) = (plainAll a && plainAll b)
  | [], b => rfl
  | d :: a, b => by
    show (plainD d && plainAll (a ++ b)) = ((plainD d && plainAll a) && plainAll b)
    rw [plain_app a b, Bool.and_assoc]
theorem plainAll_of : ∀ {ds : List PyData}, (∀ d ∈ ds, plainD d = true) → plainAll ds = true
  | [], _ => rfl
  | d :: ds, h => by
    show (plainD d && plainAll ds) = true
    rw [h d (by simp), plainAll_of fun e he => h e (List.mem_cons_of_mem _ he)]
    rfl
mutual
theorem Dt.plain {CP' : Addr → Prop} {M' : List Addr} (k : KT H H') : ∀ (d : PyData) (v : V), plainD d = true → Dt CP M H d v → Dt CP' M' H' d v
  | .none, v, _, h => by simpa only [Dt] using h
  | .bool b, v, _, h => by simpa only [Dt] using h
  | .int i, v, _, h => by simpa only [Dt] using h
  | .str s, v, _, h => by simpa only [Dt] using h
  | .list ds, v, c, _ => by simp only [plainD] at c; cases c
  | .dict _, v, c, _ => by simp only [plainD] at c; cases c
  | .tuple ds, v, c, h => by
    simp only [Dt] at h ⊢
    obtain ⟨a, xs, e, ha, r⟩ := h
    exact ⟨a, xs, e, k a _ ha, DtAll.plain k ds xs (by simpa only [plainD] using c) r⟩
theorem DtAll.plain {CP' : Addr → Prop} {M' : List Addr} (k : KT H H') : ∀ (ds : List PyData) (xs : List V), plainAll ds = true → DtAll CP M H ds xs → DtAll CP' M' H' ds xs
  | [], xs, _, h => by simpa only [DtAll] using h
  | d :: ds, xs, c, h => by
    simp only [DtAll] at h ⊢
    simp only [plainAll, Bool.and_eq_true] at c
    obtain ⟨x, r, e, h1, h2⟩ := h
    exact ⟨x, r, e, Dt.plain k d x c.1 h1, DtAll.plain k ds r c.2 h2⟩
end
theorem depthAll_get : ∀ {ds : List PyData} {i : Nat} {d : PyData}, ds[i]? = some d → d.depth ≤ PyData.depthAll ds
  | [], i, d, e => by simp at e
  | c :: ds, 0, d, e => by
    cases e
    exact Nat.le_max_left _ _
  | c :: ds, i + 1, d, e => Nat.le_trans (depthAll_get (by simpa using e)) (Nat.le_max_right _ _)
theorem depthAll_le {n : Nat} : ∀ {ds : List PyData}, (∀ d ∈ ds, d.depth ≤ n) → PyData.depthAll ds ≤ n
  | [], _ => Nat.zero_le _
  | d :: ds, h => Nat.max_le.mpr ⟨h d (by simp), depthAll_le fun e he => h e (by simp [he])⟩
theorem lay_all : ∀ {ds : List PyData}, (∀ d ∈ ds, d.canLay0 = true) → PyData.canLayAll0 ds = true
  | [], _ => rfl
  | d :: ds, h => by
    show (d.canLay0 && PyData.canLayAll0 ds) = true
    rw [h d (by simp), lay_all fun e he => h e (List.mem_cons_of_mem _ he)]
    rfl
mutual
theorem dt_dp : ∀ (d : PyData) (v : V), d.canLay0 = true → Dt CP M H d v → Dp K H v d
  | .none, v, _, h => by
    rw [dt_non' h]
    exact .non
  | .bool b, v, _, h => by
    rw [dt_bl' h]
    exact .bl b
  | .int i, v, _, h => by
    rw [dt_int' h]
    exact .int i
  | .str s, v, _, h => by
    rw [dt_str' h]
    exact .str s
  | .list ds, v, c, h => by
    obtain ⟨a, xs, rfl, _, ha, r⟩ := dt_lst' h
    exact .lst (SqL.of ha) (dt_dpAll ds xs (by simpa only [PyData.canLay0] using c) r)
  | .tuple ds, v, c, h => by
    obtain ⟨a, xs, rfl, ha, r⟩ := dt_tup' h
    exact .tup (SqT.of ha) (dt_dpAll ds xs (by simpa only [PyData.canLay0] using c) r)
  | .dict _, v, c, _ => by simp only [PyData.canLay0] at c; cases c
theorem dt_dpAll : ∀ (ds : List PyData) (xs : List V), PyData.canLayAll0 ds = true → DtAll CP M H ds xs → DpAll K H xs ds
  | [], xs, _, h => by
    simp only [DtAll] at h
    subst h
    exact .nil
  | d :: ds, xs, c, h => by
    simp only [DtAll] at h
    obtain ⟨x, r, rfl, h1, h2⟩ := h
    simp only [PyData.canLayAll0, Bool.and_eq_true] at c
    exact .cons (dt_dp d x c.1 h1) (dt_dpAll ds r c.2 h2)
end
end
end Mw

/-! MR12 -/
/-! zip of a list and a tuple; a walk over what is a list or a tuple; a list that takes in a tuple; xs[a:] = ys. -/
namespace L2
open PySem PySem.Spec PyProof.Rows
/-- a zip at z over a list's walk at i and a tuple's walk at j; the pair of walks at p, the last pair at o -/
structure Mz (h : Heap) (z p o i j a b : Addr) (n : Nat) (f : Value) : Prop where
  hz : IsZip h z p o f
  hp : IsPair h p (.ref i) (.ref j)
  ho : ∃ u v, IsPair h o u v
  hi : h.IsListIter i a n
  hj : h.IsTupleIter j b n
theorem Mz.at {h h' : Heap} {z p o i j a b : Addr} {n : Nat} {f : Value} (m : Mz h z p o i j a b n f) (k : ∀ c, c ∈ [z, p, o, i, j] → ∀ t, h.get? c = some t → h'.get? c = some t) : Mz h' z p o i j a b n f := by
  obtain ⟨m1, m2, ⟨u, v, m3⟩, m4, m5⟩ := m
  exact ⟨k z (by simp) _ m1, k p (by simp) _ m2, ⟨u, v, k o (by simp) _ m3⟩, m4.at fun t e => k i (by simp) t e, m5.at fun t e => k j (by simp) t e⟩
section
variable {prog : Program} {w : World} {A : Around} {E : Value → Shared → Prop} {s : Shared} {z p o i j a b : Addr} {n : Nat} {xs ys : Array Value}
theorem mz_step {x y : Value} {Q : Value → Shared → Prop} (D : ZipApart z p o i j a b) (m : Mz s.heap z p o i j a b n .none) (ha : s.heap.IsList a xs) (hb : s.heap.IsTuple b ys) (ex : xs[n]? = some x) (ey : ys[n]? = some y)
    (q : ∀ h', Mz h' z p o i j a b (n + 1) (rawInt s.heap.objs.size) → IsPair h' s.heap.objs.size x y → (∀ c t, c ∉ [z, o, i, j] → s.heap.get? c = some t → h'.get? c = some t) → Q (.ref s.heap.objs.size) { s with heap := h' }) :
    wpAny (model prog w) A (Builtin.«zip.__next__» ⟨[.ref z], []⟩) (fun r s1 => ∃ v, r = .done (.ret v) ∧ Q v s1) E s := by
  obtain ⟨mz, mp, ⟨u, v, mo⟩, mi, mj⟩ := m
  show wpAny _ _ (field (.ref z) 2 >>= _) _ _ _
  refine wpAny_bind (wpAny_field mz rfl (x := .bool false) rfl ?_)
  show wpAny _ _ (field (.ref z) 3 >>= _) _ _ _
  refine wpAny_bind (wpAny_field mz rfl (x := .ref p) rfl (wpAny_bind (wpAny_seqItems mp rfl ?_)))
  show wpAny _ _ (Builtin.SmallTypes.ownedTupleIsFree (.ref z) >>= _) _ _ _
  unfold Builtin.SmallTypes.ownedTupleIsFree
  refine wpAny_bind (wpAny_bind (wpAny_field mz rfl (x := .none) rfl (wpAny_pure ?_)))
  simp only [if_true]
  refine wpAny_bind (wpAny_rule (wpAny_bind (wpAny_field mz rfl (x := .ref o) rfl (wpAny_bind (wpAny_setField_rec mz (by simp) fun g1 z1 k1 => ?_)))))
  replace z1 : IsZip g1 z p o .ellipsis := z1
  simp only [List.zipIdx_cons, List.zipIdx_nil, List.forIn_cons, List.forIn_nil]
  refine wpAny_bind (wpAny_bind (wpAny_bind (wpAny_onRaise ?_)))
  show wpAny _ _ (Builtin.SmallTypes.nextOf (.ref i) >>= _) _ _ _
  refine wpAny_bind (wpAny_nextOf_list_item (mi.extBut k1.extBut D.i1z) (ha.extBut k1.extBut D.l1z) ex fun g2 i2 k2 => wpAny_pure ?_)
  have o2 : IsPair g2 o u v := k2.extBut _ _ D.TOi1 (k1.extBut _ _ D.TOz mo)
  refine wpAny_bind (wpAny_seqItems o2 rfl (wpAny_bind (wpAny_updateSeq_pair o2 fun g3 o3 k3 => wpAny_bind (wpAny_letGo (wpAny_pure ?_)))))
  replace o3 : IsPair g3 o x v := o3
  refine wpAny_bind (wpAny_bind (wpAny_onRaise ?_))
  show wpAny _ _ (Builtin.SmallTypes.nextOf (.ref j) >>= _) _ _ _
  refine wpAny_bind (RZ.nextOf_tuple_item (((mj.extBut k1.extBut D.i2z).extBut k2.extBut D.i12.symm).extBut k3.extBut D.TOi2.symm) (((hb.extBut k1.extBut D.l2z).extBut k2.extBut D.l2i1).extBut k3.extBut D.l2TO) ey fun g4 j4 k4 => wpAny_pure ?_)
  have o4 : IsPair g4 o x v := k4.extBut _ _ D.TOi2 o3
  refine wpAny_bind (wpAny_seqItems o4 rfl (wpAny_bind (wpAny_updateSeq_pair o4 fun g5 o5 k5 => wpAny_bind (wpAny_letGo (wpAny_pure (wpAny_pure ?_))))))
  replace o5 : IsPair g5 o x y := o5
  refine wpAny_bind (wpAny_seqItems o5 rfl (wpAny_bind (wpAny_newTuple ?_)))
  have sz : g5.objs.size = s.heap.objs.size := by rw [k5.1, k4.1, k3.1, k2.1, k1.1]
  have z5 : IsZip g5 z p o .ellipsis := k5.extBut _ _ D.TOz.symm (k4.extBut _ _ D.i2z.symm (k3.extBut _ _ D.TOz.symm (k2.extBut _ _ D.i1z.symm z1)))
  have up5 : ∀ c t, c ∉ [z, o, i, j] → s.heap.get? c = some t → g5.get? c = some t := fun c t nc e => by
    simp only [List.mem_cons, List.not_mem_nil, or_false, not_or] at nc
    obtain ⟨n1, n2, n3, n4⟩ := nc
    exact k5.extBut _ _ n2 (k4.extBut _ _ n4 (k3.extBut _ _ n2 (k2.extBut _ _ n3 (k1.extBut _ _ n1 e))))
  have i5 : g5.IsListIter i a (n + 1) := ((i2.extBut k3.extBut D.TOi1.symm).extBut k4.extBut D.i12).extBut k5.extBut D.TOi1.symm
  have j5 : g5.IsTupleIter j b (n + 1) := j4.extBut k5.extBut D.TOi2.symm
  have zl : z < g5.objs.size := Heap.lt_size z5
  show wpAny _ _ (Builtin.SmallTypes.ownedTupleHandOut (.ref z) (.ref g5.objs.size) >>= _) _ _ _
  unfold Builtin.SmallTypes.ownedTupleHandOut
  have z6 : IsZip (g5.push { cls := .type "tuple", data := .seq #[x, y] }) z p o .ellipsis := Heap.get?_push_of_some _ z5
  refine wpAny_bind (wpAny_bind (wpAny_setField_rec z6 (by simp) fun g7 z7 k7 => ?_))
  replace z7 : IsZip g7 z p o (rawInt g5.objs.size) := z7
  refine wpAny_setField_rec z7 (by simp) fun g8 z8 k8 => ?_
  replace z8 : IsZip g8 z p o (rawInt g5.objs.size) := z8
  have up8 : ∀ c t, c ≠ z → g5.get? c = some t → g8.get? c = some t := fun c t nc e => k8.extBut _ _ nc (k7.extBut _ _ nc (Heap.get?_push_of_some _ e))
  have t8 : IsPair g8 g5.objs.size x y := k8.extBut _ _ (Nat.ne_of_gt zl) (k7.extBut _ _ (Nat.ne_of_gt zl) (Heap.get?_push_size _ rfl))
  rw [sz] at z8 t8
  refine wpAny_pure ⟨_, rfl, ?_⟩
  show Q (.ref g5.objs.size) _
  rw [sz]
  have np : p ∉ [z, o, i, j] := by simp [D.TIz, D.TITO, D.TIi1, D.TIi2]
  exact q g8 ⟨z8, up8 _ _ D.TIz (up5 _ _ np mp), ⟨x, y, up8 _ _ D.TOz o5⟩, i5.at fun t e => up8 _ t D.i1z e, j5.at fun t e => up8 _ t D.i2z e⟩ t8 fun c t nc e => up8 c t (fun e => nc (by simp [e])) (up5 c t nc e)
theorem mz_end {Q : Fin → Shared → Prop} (hh : A.handled = none) (D : ZipApart z p o i j a b) (m : Mz s.heap z p o i j a b n .none) (ha : s.heap.IsList a xs) (hb : s.heap.IsTuple b ys) (en : xs[n]? = none ∨ ys[n]? = none)
    (q : ∀ h' e, (∀ c t, c ∉ [z, o, i, j] → s.heap.get? c = some t → h'.get? c = some t) → (∃ t, h'.get? e = some t ∧ t.cls = .type "StopIteration") → E (.ref e) { s with heap := h' }) :
    wpAny (model prog w) A (Builtin.«zip.__next__» ⟨[.ref z], []⟩) Q E s := by
  obtain ⟨mz, mp, ⟨u, v, mo⟩, mi, mj⟩ := m
  show wpAny _ _ (field (.ref z) 2 >>= _) _ _ _
  refine wpAny_bind (wpAny_field mz rfl (x := .bool false) rfl ?_)
  show wpAny _ _ (field (.ref z) 3 >>= _) _ _ _
  refine wpAny_bind (wpAny_field mz rfl (x := .ref p) rfl (wpAny_bind (wpAny_seqItems mp rfl ?_)))
  show wpAny _ _ (Builtin.SmallTypes.ownedTupleIsFree (.ref z) >>= _) _ _ _
  unfold Builtin.SmallTypes.ownedTupleIsFree
  refine wpAny_bind (wpAny_bind (wpAny_field mz rfl (x := .none) rfl (wpAny_pure ?_)))
  simp only [if_true]
  refine wpAny_bind (wpAny_rule (wpAny_bind (wpAny_field mz rfl (x := .ref o) rfl (wpAny_bind (wpAny_setField_rec mz (by simp) fun g1 z1 k1 => ?_)))))
  replace z1 : IsZip g1 z p o .ellipsis := z1
  simp only [List.zipIdx_cons, List.zipIdx_nil, List.forIn_cons, List.forIn_nil]
  refine wpAny_bind (wpAny_bind (wpAny_bind (wpAny_onRaise ?_)))
  show wpAny _ _ (Builtin.SmallTypes.nextOf (.ref i) >>= _) _ _ _
  cases ex : xs[n]? with
  | none =>
    refine wpAny_bind (wpAny_nextOf_list_end hh (mi.extBut k1.extBut D.i1z) (ha.extBut k1.extBut D.l1z) ex fun g2 e k2 ⟨t, et, ct⟩ => ?_)
    have z2 : IsZip g2 z p o .ellipsis := k2 _ _ D.i1z.symm z1
    have ne : e ≠ z := fun x => by
      subst x
      rw [z2] at et
      cases et
      simp at ct
    refine wpAny_setField_rec z2 (by simp) fun g3 _ k3 => q g3 e (fun c t nc x => ?_) ⟨t, k3.extBut _ _ ne et, ct⟩
    simp only [List.mem_cons, List.not_mem_nil, or_false, not_or] at nc
    exact k3.extBut _ _ nc.1 (k2 _ _ nc.2.2.1 (k1.extBut _ _ nc.1 x))
  | some x =>
    have ey : ys[n]? = none := en.resolve_left (by rw [ex]; exact fun z => by cases z)
    refine wpAny_bind (wpAny_nextOf_list_item (mi.extBut k1.extBut D.i1z) (ha.extBut k1.extBut D.l1z) ex fun g2 i2 k2 => wpAny_pure ?_)
    have o2 : IsPair g2 o u v := k2.extBut _ _ D.TOi1 (k1.extBut _ _ D.TOz mo)
    refine wpAny_bind (wpAny_seqItems o2 rfl (wpAny_bind (wpAny_updateSeq_pair o2 fun g3 o3 k3 => wpAny_bind (wpAny_letGo (wpAny_pure ?_)))))
    refine wpAny_bind (wpAny_bind (wpAny_onRaise ?_))
    show wpAny _ _ (Builtin.SmallTypes.nextOf (.ref j) >>= _) _ _ _
    refine wpAny_bind (RZ.nextOf_tuple_end hh (((mj.extBut k1.extBut D.i2z).extBut k2.extBut D.i12.symm).extBut k3.extBut D.TOi2.symm) (((hb.extBut k1.extBut D.l2z).extBut k2.extBut D.l2i1).extBut k3.extBut D.l2TO) ey fun g4 e k4 ⟨t, et, ct⟩ => ?_)
    have z4 : IsZip g4 z p o .ellipsis := k4 _ _ D.i2z.symm (k3.extBut _ _ D.TOz.symm (k2.extBut _ _ D.i1z.symm z1))
    have ne : e ≠ z := fun x => by
      subst x
      rw [z4] at et
      cases et
      simp at ct
    refine wpAny_setField_rec z4 (by simp) fun g5 _ k5 => q g5 e (fun c t nc x => ?_) ⟨t, k5.extBut _ _ ne et, ct⟩
    simp only [List.mem_cons, List.not_mem_nil, or_false, not_or] at nc
    exact k5.extBut _ _ nc.1 (k4 _ _ nc.2.2.2 (k3.extBut _ _ nc.2.1 (k2.extBut _ _ nc.2.2.1 (k1.extBut _ _ nc.1 x))))
theorem mz_next {x y : Value} {Q : Option Value → Shared → Prop} (D : ZipApart z p o i j a b) (m : Mz s.heap z p o i j a b n .none) (ha : s.heap.IsList a xs) (hb : s.heap.IsTuple b ys) (ex : xs[n]? = some x) (ey : ys[n]? = some y)
    (q : ∀ h', Mz h' z p o i j a b (n + 1) (rawInt s.heap.objs.size) → IsPair h' s.heap.objs.size x y → (∀ c t, c ∉ [z, o, i, j] → s.heap.get? c = some t → h'.get? c = some t) → Q (some (.ref s.heap.objs.size)) { s with heap := h' }) : wpAny (model prog w) A (pyNext (.ref z)) Q E s := by
  have ty : s.TypeIs (.ref z) "zip" := ⟨_, m.hz, rfl⟩
  unfold pyNext
  exact wpAny_bind (wpAny_attempt (wpAny_callSpecial?_slot (name := Str.ofString "__next__") ty F.slot_zip_next (wpAny_call_entry F.slot_zip_next ty F.entry_zip_next (mz_step D m ha hb ex ey fun h' c1 c2 c3 => wpAny_pure (q h' c1 c2 c3)) (F.args_zip_next_1 _))))
theorem mz_stop {Q : Option Value → Shared → Prop} (hh : A.handled = none) (D : ZipApart z p o i j a b) (m : Mz s.heap z p o i j a b n .none) (ha : s.heap.IsList a xs) (hb : s.heap.IsTuple b ys) (en : xs[n]? = none ∨ ys[n]? = none)
    (q : ∀ h', (∀ c t, c ∉ [z, o, i, j] → s.heap.get? c = some t → h'.get? c = some t) → Q none { s with heap := h' }) : wpAny (model prog w) A (pyNext (.ref z)) Q E s := by
  have ty : s.TypeIs (.ref z) "zip" := ⟨_, m.hz, rfl⟩
  unfold pyNext
  refine wpAny_bind (wpAny_attempt (wpAny_callSpecial?_slot (name := Str.ofString "__next__") ty F.slot_zip_next (wpAny_call_entry F.slot_zip_next ty F.entry_zip_next (mz_end hh D m ha hb en fun h' e k ⟨t, et, ct⟩ => ?_) (F.args_zip_next_1 _))))
  exact wpAny_bind (wpAny_isInstance (T := "StopIteration") (b := true) ⟨t, et, ct⟩ isSubtype_stop (wpAny_pure (q _ k)))
end
/-! the new zip -/
def mzH (h : Heap) (a b : Addr) : Heap := ((((h.push { cls := .type "list_iterator", data := .fields #[.ref a, .int 0 0] }).push { cls := .type "tuple_iterator", data := .fields #[.ref b, .int 0 0] }).push
  { cls := .type "tuple", data := .seq #[.ref h.objs.size, .ref (h.objs.size + 1)] }).push { cls := .type "tuple", data := .seq #[.none, .none] }).push
  { cls := .type "zip", data := .fields #[.none, .bool false, .bool false, .ref (h.objs.size + 2), .ref (h.objs.size + 3)] }
theorem mz_new (a b : Addr) (xs ys : Array Value) : Meets (Builtin.«zip.__new__» ⟨[.type "zip", .ref a, .ref b], []⟩) (fun _ R s => s.heap.IsList a xs ∧ s.heap.IsTuple b ys ∧ R (.ok (.ret (.ref (s.heap.objs.size + 4)))) { s with heap := mzH s.heap a b }) :=
  .of_wp fun prog w A R s h => by
    obtain ⟨hp, g, d, tk, os⟩ := s
    obtain ⟨ha, hb, h⟩ := h
    have sub := sub_zip
    have La : Heap.IsList (Shared.heap ⟨hp, g, d, tk, os⟩) a xs := ha
    have Lb : Heap.IsTuple (Shared.heap ⟨hp.push { cls := .type "list_iterator", data := .fields #[.ref a, .int 0 0] }, g, d, tk, os⟩) b ys := Heap.IsTuple.push hb _
    have e1 : (hp.push { cls := .type "list_iterator", data := .fields #[.ref a, .int 0 0] }).objs.size = hp.objs.size + 1 := Heap.size_push ..
    unfold mzH at h
    dsimp only at h
    wp_walk using wpAny_pyIter_list La, wpAny_pyIter_tuple Lb
    simp only [Heap.size_push] at *
    exact ⟨_, rfl, h⟩
section
variable {prog : Program} {w : World} {A : Around} {E : Value → Shared → Prop} {s : Shared} {a b : Addr} {xs ys : Array Value}
theorem mz_call {Q : Value → Shared → Prop} (ha : s.heap.IsList a xs) (hb : s.heap.IsTuple b ys)
    (q : ∀ h', Mz h' (s.heap.objs.size + 4) (s.heap.objs.size + 2) (s.heap.objs.size + 3) s.heap.objs.size (s.heap.objs.size + 1) a b 0 .none → (∀ c t, s.heap.get? c = some t → h'.get? c = some t) → Q (.ref (s.heap.objs.size + 4)) { s with heap := h' }) :
    wpAny (model prog w) A (call (.type "zip") [.ref a, .ref b]) Q E s := by
  refine callType_new F.called_zip (by decide) (F.typeCall_zip_2 _ _) (F.newCall_zip_2 _ _) (fun ob => F.args_object_init_3 ob _ _) F.entry_zip_new (mz_new a b xs ys) ⟨ha, hb, ?_⟩
  generalize hn : s.heap.objs.size = N at q ⊢
  have g : ∀ {h : Heap} {ob : Obj} {m : Nat}, h.objs.size = m → ob.isFreed = false → (h.push ob).get? m = some ob := fun e f => by
    rw [← e]
    exact Heap.get?_push_size _ f
  have u : ∀ {h : Heap} {ob t : Obj} {c : Addr}, h.get? c = some t → (h.push ob).get? c = some t := fun e => Heap.get?_push_of_some _ e
  have hz : IsZip (mzH s.heap a b) (N + 4) (N + 2) (N + 3) .none := by
    unfold mzH
    rw [hn]
    exact g (by simp only [Heap.size_push, hn]) rfl
  have hi : (mzH s.heap a b).get? N = some { cls := .type "list_iterator", data := .fields #[.ref a, .int 0 0] } := by
    unfold mzH
    exact u (u (u (u (g hn rfl))))
  have hj : (mzH s.heap a b).get? (N + 1) = some { cls := .type "tuple_iterator", data := .fields #[.ref b, .int 0 0] } := by
    unfold mzH
    exact u (u (u (g (by simp only [Heap.size_push, hn]) rfl)))
  refine ⟨⟨_, hz, rfl⟩, q _ ⟨hz, ?_, ⟨.none, .none, ?_⟩, ⟨_, hi, rfl, rfl⟩, ⟨_, hj, rfl, rfl⟩⟩ fun c t e => ?_⟩
  all_goals unfold mzH
  · rw [hn]
    exact u (u (g (by simp only [Heap.size_push, hn]) rfl))
  · exact u (g (by simp only [Heap.size_push, hn]) rfl)
  · exact u (u (u (u (u e))))
end
/-- the list at a and the tuple at b, the items in new pairs -/
def Imz (K : PySem.W.Frag) (a b : Addr) : It :=
  ⟨fun i H => ∃ (xs ys : List V) (x y : V), SqL K H a xs ∧ SqT K H b ys ∧ xs[i]? = some x ∧ ys[i]? = some y,
   fun i H v H' => ∃ t x y, v = .ref t ∧ H t = none ∧ H' = upd H t (.tup [x, y]) ∧ (∀ xs, SqL K H a xs → xs[i]? = some x) ∧ ∀ ys, SqT K H b ys → ys[i]? = some y,
   fun i H => ∃ xs ys : List V, SqL K H a xs ∧ SqT K H b ys ∧ (xs.length ≤ i ∨ ys.length ≤ i)⟩
theorem turn_mz {P : Program} {w : World} {K : PySem.W.Frag} {elts : List Expr} {kk : Nat} {tpos : Pos} {a b z p o i1 i2 : Addr} (D : ZipApart z p o i1 i2 a b) :
    Turn P w K (.Tuple elts kk tpos) (Imz K a b) [z, p, o, i1, i2] z (fun i h => Mz h z p o i1 i2 a b i .none) where
  mem := by simp
  obj := fun i h st c hc => by
    obtain ⟨m1, m2, ⟨u, v, m3⟩, ⟨o1, e1, _, d1⟩, ⟨o2, e2, _, d2⟩⟩ := st
    simp only [List.mem_cons, List.not_mem_nil, or_false] at hc
    rcases hc with e | e | e | e | e <;> subst e
    · exact ⟨_, m1, fun v e => by cases e⟩
    · exact ⟨_, m2, fun v e => by cases e⟩
    · exact ⟨_, m3, fun v e => by cases e⟩
    · exact ⟨o1, e1, fun v e => by rw [d1] at e; cases e⟩
    · exact ⟨o2, e2, fun v e => by rw [d2] at e; cases e⟩
  keep := fun i h h' st k => st.at k
  item := by
    intro X hP hw hK hc i pins s σ H E I hf st hg
    subst hP hw hK
    obtain ⟨xs, ys, x, y, qx, qy, ex, ey⟩ := hg
    obtain ⟨us, rv, pa, _⟩ := I.list qx
    obtain ⟨ws, rw_, pb, _⟩ := I.tuple qy
    obtain ⟨u, hu, ru⟩ := rv.get ex
    obtain ⟨v, hv, rv2⟩ := rw_.get ey
    have zl : z < s.heap.objs.size := Heap.lt_size st.hz
    refine mz_next D st pa.isList (show s.heap.IsTuple b ws.toArray from pb) (x := u) (y := v) (by simpa using hu) (by simpa using hv) fun g m1 t1 k1 => ⟨_, rfl, ?_⟩
    refine wpAny_letOwnedTupleGo_zip (s := { s with heap := g }) m1.hz fun g2 z2 sb => ?_
    have t2 : g2.get? s.heap.objs.size = some { cls := .type "tuple", data := .seq #[u, v] } := (sb.2 _ (Nat.ne_of_gt zl)).trans t1
    have new : ObjOk X.prog X.w (upd H s.heap.objs.size (.tup [x, y])) g2 s.heap.objs.size (.tup [x, y]) :=
      ⟨by show 2 ≤ sizeLine; decide, [u, v], .cons ru (.cons rv2 .nil), ⟨_, t2, rfl, _, rfl⟩⟩
    have I1 : Inv X pins σ (upd H s.heap.objs.size (.tup [x, y])) { s with heap := g2 } :=
      I.turnedNew (t' := s.toks) (ch := [z, p, o, i1, i2]) (fun c t nb e => (sb.2 c (fun q => nb (by simp [q]))).trans (k1 c t (fun q => nb (by simp at q ⊢; rcases q with q | q | q | q <;> simp [q])) e)) hf (Nat.le_refl _) new
    obtain ⟨_, mp, ⟨r1, r2, mo⟩, mi, mj⟩ := m1
    refine ⟨.ref s.heap.objs.size, _, I1, rfl, ⟨_, x, y, rfl, I.hok.fresh (Nat.le_refl _), rfl, fun l hl => by rw [I.list_inj hl qx]; exact ex, fun l hl => by rw [I.tuple_inj hl qy]; exact ey⟩, ⟨z2, (sb.2 _ D.TIz).trans mp, ⟨r1, r2, (sb.2 _ D.TOz).trans mo⟩, mi.at fun t e => (sb.2 _ D.i1z).trans e, mj.at fun t e => (sb.2 _ D.i2z).trans e⟩, fun c hcm => ?_⟩
    have lt : c < s.heap.objs.size := by
      obtain ⟨ob, e, _⟩ := show ∃ ob, s.heap.get? c = some ob ∧ True from by
        obtain ⟨m1, m2, ⟨u, v, m3⟩, ⟨o1, e1, _, d1⟩, ⟨o2, e2, _, d2⟩⟩ := st
        simp only [List.mem_cons, List.not_mem_nil, or_false] at hcm
        rcases hcm with e | e | e | e | e <;> subst e
        · exact ⟨_, m1, trivial⟩
        · exact ⟨_, m2, trivial⟩
        · exact ⟨_, m3, trivial⟩
        · exact ⟨_, e1, trivial⟩
        · exact ⟨_, e2, trivial⟩
      exact Heap.lt_size e
    rw [upd_ne (Nat.ne_of_lt lt)]
    exact (hf c hcm).1
  done := by
    intro X hP hw hK hc i pins s σ H E I hf st hg
    subst hP hw hK
    obtain ⟨xs, ys, qx, qy, en⟩ := hg
    obtain ⟨us, rv, pa, _⟩ := I.list qx
    obtain ⟨ws, rw_, pb, _⟩ := I.tuple qy
    have l1 := rv.length
    have l2 := rw_.length
    refine mz_stop (I.ok.hd hc) D st pa.isList (show s.heap.IsTuple b ws.toArray from pb) (en.imp (fun q => by simp; omega) fun q => by simp; omega) fun g k => ⟨rfl, ?_⟩
    exact I.turnedL (t' := s.toks) (ch := [z, p, o, i1, i2]) (fun c t nb e => k c t (fun q => nb (by simp at q ⊢; rcases q with q | q | q | q <;> simp [q])) e) hf
  self := fun A i s Q E st h => wpAny_pyIter_zip st.hz h
def iZipLT (K : PySem.W.Frag) (ta : TA) : TI := fun σ H R => ta σ H fun vs H1 => ∃ a b xs ys, vs = [.ref a, .ref b] ∧ SqL K H1 a xs ∧ SqT K H1 b ys ∧ R (Imz K a b) H1
theorem pi_zipLT {X : Cx} {e e2 : Expr} {ta : TA} {p pos tpos : Pos} {elts : List Expr} {kk : Nat} (hg : Gl X "zip") (hm : X.mg "zip" = none) (ha : PA X [e, e2] ta)
    (hs : starEach [e, e2] X.env = (false, eval e X.env) :: starEach [e2] X.env := by rfl) (hpl : (backTo pos (starEach [e2] X.env)).any (·.1) = false := by rfl) :
    PI X (.Tuple elts kk tpos) (.Call (.Name "zip" p) [e, e2] [] pos) (iZipLT X.K ta) := by
  refine ⟨fun pins s σ H R I h => ?_⟩
  refine Call_ (ld_blt I hg hm PyProof.Rows.boot_zip (PyProof.Rows.callWith_type1 (thn (ha.run pos pins s σ H _ I h) fun us s1 ⟨vs, H1, I1, r1, q1⟩ => ?_) hs hpl))
  obtain ⟨a, b, xs, ys, rfl, qx, qy, q⟩ := q1
  cases r1 with
  | cons r rr =>
    cases rr with
    | cons r2 rr =>
      cases rr
      cases r
      cases r2
      obtain ⟨us, rv, pa, _⟩ := I1.list qx
      obtain ⟨ws, rw_, pb, _⟩ := I1.tuple qy
      have tb : s1.heap.IsTuple b ws.toArray := pb
      obtain ⟨ob, hb, _⟩ := id tb
      refine mz_call pa.isList tb fun h' m k => wpAny_pyIter_zip m.hz ?_
      refine ⟨s1.heap.objs.size + 4, [s1.heap.objs.size + 4, s1.heap.objs.size + 2, s1.heap.objs.size + 3, s1.heap.objs.size, s1.heap.objs.size + 1], _, _, H1, rfl, I1.kept (t' := s1.toks) k, turn_mz (PySem.W.ktu_apart s1.heap.objs.size a b pa.lt (Heap.lt_size hb)), m, fun c hc => ?_, q⟩
      have le : s1.heap.objs.size ≤ c := by
        simp only [List.mem_cons, List.not_mem_nil, or_false] at hc
        rcases hc with e | e | e | e | e <;> rw [e]
        all_goals first | exact Nat.le_add_right _ _ | exact Nat.le_refl _
      exact I1.fpOk le (I1.hok.fresh le)
/-- a list or a tuple, walked -/
def iSeq (K : PySem.W.Frag) (tl : TE) : TI := fun σ H R => tl σ H fun x H1 => ∃ a, x = .ref a ∧ ((∃ xs, SqL K H1 a xs) ∧ R (Itl K a) H1 ∨ (∃ xs, SqT K H1 a xs) ∧ R (Itt K a) H1)
theorem pi_seq {X : Cx} {tg l : Expr} {tl : TE} (hl : PE X l tl) : PI X tg l (iSeq X.K tl) := by
  refine ⟨fun pins s σ H R I h => thn (hl.run pins s σ H _ I h) fun v s1 ⟨x, H1, I1, r1, q1⟩ => ?_⟩
  obtain ⟨a, rfl, q⟩ := q1
  cases r1
  have fp : ∀ c ∈ [s1.heap.objs.size], FpOk X pins H1 c := fun c hc => by
    rw [show c = s1.heap.objs.size by simpa using hc]
    exact I1.fpOk (Nat.le_refl _) (I1.hok.fresh (Nat.le_refl _))
  rcases q with ⟨⟨xs, hq⟩, q⟩ | ⟨⟨xs, hq⟩, q⟩
  · obtain ⟨us, _, pa, _⟩ := I1.list hq
    exact wpAny_pyIter_list pa.isList ⟨_, _, _, _, H1, rfl, I1.kept (t' := s1.toks) fun c t e => Heap.get?_push_of_some _ e, turn_list a _, ⟨_, Heap.get?_push_size _ rfl, rfl, rfl⟩, fp, q⟩
  · obtain ⟨us, _, pa, _⟩ := I1.tuple hq
    exact wpAny_pyIter_tuple (show s1.heap.IsTuple a us.toArray from pa) ⟨_, _, _, _, H1, rfl, I1.kept (t' := s1.toks) fun c t e => Heap.get?_push_of_some _ e, turn_tuple a _, ⟨_, Heap.get?_push_size _ rfl, rfl, rfl⟩, fp, q⟩
end L2

/-! MR13 -/
/-! A list that takes in a tuple; xs[a:] = ys. -/
namespace L2
open PySem PySem.Spec PyProof.Rows
/-- list.extend of a tuple -/
theorem xt_tup (l : Addr) (us : Array Value) (n : Nat) (b : Addr) (ws : Array Value) (h0 : ¬(!us.isEmpty && Builtin.List.listTooLong (us.size + ws.size)) = true) (h1 : us.size ≤ sizeLine) (h2 : us.size + ws.size ≤ sizeLine + 1) :
    Meets (Builtin.«list.extend» ⟨[.ref l, .ref b], []⟩) (fun _ R s => s.heap.get? l = some { cls := .type "list", data := .seq us n } ∧ IsTup s.heap b ws ∧ R (.ok (.ret Value.none)) { s with heap := s.heap.update l (Obj.mapSeq fun x => x ++ ws), toks := s.toks }) :=
  .of_wp fun prog w A R s h => by
    obtain ⟨hp, g, d, tk, os⟩ := s
    obtain ⟨hl, ⟨ob, eb, cb, k, db⟩, h⟩ := h
    have ty : Shared.TypeIs ⟨hp, g, d, tk, os⟩ (.ref b) "tuple" := ⟨ob, eb, cb⟩
    have fit : (us ++ ws).size ≤ sizeLine + 1 := by rw [Array.size_append]; exact h2
    have f2 := sub_tuple_tuple
    have f3 := sub_list_list
    have f4 := sub_tuple_list
    have f5 := sub_list_tuple
    wp_walk using (wpAny_typeOf ty), (wpAny_seqItems eb db), (wpAny_updateSeq hl rfl (hz := h1) (_hz' := fit)), wpAny_loadPart' hl
    exact ⟨_, rfl, h⟩
def rExtT : V → List V → Hp → VK → Prop := fun x vs H Q => ∃ l b xs zs, x = .ref l ∧ vs = [.ref b] ∧ H l = some (.lst xs) ∧ H b = some (.tup zs) ∧ xs.length + zs.length ≤ sizeLine ∧ Q .non (upd H l (.lst (xs ++ zs)))
section
variable {X : Cx}
theorem mt_extT : MtM X "list.extend" rExtT := by
  intro pins s σ H x vs v us Q I rx rv h
  obtain ⟨l, b, xs, zs, rfl, rfl, hl, hb, hz, q⟩ := h
  cases rx
  obtain ⟨u, rfl, ru⟩ := rv.one
  cases ru
  obtain ⟨_, its, n, r, hn, e⟩ := I.lstM hl
  obtain ⟨ws, r2, tb, _⟩ := I.tuple (SqT.of hb)
  have l2 := r2.length
  have room : its.toArray.size + ws.toArray.size ≤ sizeLine := by
    rw [List.size_toArray, List.size_toArray]
    omega
  have short : ¬ (!its.toArray.isEmpty && Builtin.List.listTooLong (its.toArray.size + ws.toArray.size)) = true := by
    rw [notLongL room, Bool.and_false]
    exact Bool.false_ne_true
  refine call_meets F.slot_list_extend ⟨_, e, rfl⟩ F.entry_list_extend (F.args_list_extend_2 _ _) (xt_tup l its.toArray n b ws.toArray short (Nat.le_trans (Nat.le_add_right _ _) room) (by omega)) ⟨e, tb, ?_⟩
  exact ⟨.non, _, I.lset (its' := its ++ ws) hl e (by simp) (r.append r2) (by rw [List.length_append]; omega), rfl, q⟩
end
/-! xs[a:] = ys -/
theorem tail_bounds {a n : Nat} (h : a ≤ n) : sliceBounds (some (a : Int)) none none n = ((a : Int), (n : Int), 1) := by
  simp only [sliceBounds, Option.getD_none, show ¬ ((a : Int) < 0) by omega, if_false, show (1 : Int) > 0 by decide, if_true]
  congr 1
  omega
section
variable {prog : Program} {w : World} {A : Around} {E : Value → Shared → Prop} {s : Shared}
theorem tail_set {l b sl : Addr} {us ws : Array Value} {n m : Nat} {vl vu : Value} {a : Nat} {Q : Unit → Shared → Prop}
    (e : s.heap.get? l = some { cls := .type "list", data := .seq us n }) (e2 : s.heap.get? b = some { cls := .type "list", data := .seq ws m }) (ne : l ≠ b)
    (hs : s.heap.IsSliceOf sl vl vu .none) (pl : IsPart vl (some (a : Int))) (pu : IsPart vu none) (ha : a ≤ us.size) (room : us.size + ws.size ≤ sizeLine)
    (q : Q () { s with heap := s.heap.update l (Obj.mapSeq fun xs => xs.extract 0 a ++ ws ++ xs.extract us.size xs.size) }) :
    wpAny (model prog w) A (setItem (.ref l) (.ref sl) (.ref b)) Q E s := by
  have hl : s.heap.IsList l us := PySem.IsL.isList e
  have hb : s.heap.IsList b ws := PySem.IsL.isList e2
  obtain ⟨ob, hob, cob, dob⟩ := id hs
  have ts : s.TypeIs (.ref sl) "slice" := ⟨ob, hob, cob⟩
  have apart : Builtin.List.listSameRef (.ref l) (.ref b) = false := by
    unfold Builtin.List.listSameRef
    exact beq_eq_false_iff_ne.mpr ne
  have top : max (a : Int) (us.size : Int) = ((us.size : Nat) : Int) := by omega
  have fit : (us.extract 0 a ++ ws ++ us.extract us.size us.size).size ≤ sizeLine + 1 := by
    simp only [Array.size_append, Array.size_extract]
    omega
  unfold setItem
  first | with_reducible refine wpAny_holding ?_ | skip
  first | refine wpAny_bind (wpAny_pure ?_) | skip
  refine wpAny_bind (wpAny_sequenceKey hl.typeIs (by decide) ?_)
  refine wpAny_bind (wpAny_callSpecial?_slot (name := Str.ofString "__setitem__") hl.typeIs slot_list_setitem (wpAny_call_entry slot_list_setitem hl.typeIs entry_list_setitem ?_ (args_list_setitem _ _ _)))
  show wpAny _ _ (Builtin.List.listSubscript? (.ref sl) >>= _) _ _ s
  unfold Builtin.List.listSubscript?
  refine wpAny_bind (wpAny_bind (wpAny_specialOf ts slice_no_index ?_))
  simp only [Option.isNone_none, if_true]
  refine wpAny_pure ?_
  show wpAny _ _ (typeOf (.ref sl) >>= _) _ _ s
  refine wpAny_bind (wpAny_typeOf ts ?_)
  first
    | rw [if_neg (by decide)]
    | refine PySem.W.KFB.if_not (by decide) ?_
  rw [listSliceParts_eq]
  refine wpAny_bind (wpAny_bind (wpAny_field hob dob (x := .none) rfl (wpAny_bind (wpAny_listPart .none ?_))))
  rw [if_neg (show ¬ ((rawPart none == rawInt 0) = true) from Bool.false_ne_true)]
  refine wpAny_bind (wpAny_field hob dob (x := vl) rfl (wpAny_bind (wpAny_listPart pl (wpAny_bind (wpAny_field hob dob (x := vu) rfl (wpAny_bind (wpAny_listPart pu (wpAny_pure ?_))))))))
  first
    | simp only [apart, Bool.false_eq_true, if_false]
    | refine PySem.W.KFB.if_not apart ?_
    | (dsimp only
       rw [if_neg (by rw [apart]; exact Bool.false_ne_true)])
  refine wpAny_bind (m := Builtin.List.listAllItems (.ref b) "must assign iterable to extended slice") ?_
  unfold Builtin.List.listAllItems
  refine wpAny_bind (wpAny_typeOf hb.typeIs ?_)
  first
    | refine PySem.W.KFB.if_so (by decide) ?_
    | rw [if_pos (by decide)]
    | simp only [beq_self_eq_true, Bool.true_or, if_true]
  unfold Builtin.List.listItems
  refine wpAny_bind (wpAny_seqItems e2 rfl (wpAny_pure (wpAny_bind (wpAny_bind (wpAny_seqItems e rfl (wpAny_pure ?_))))))
  refine wpAny_bind (wpAny_of_eq ((sliceIndices_raw (some (a : Int)) none none us.size (by simp)).trans (congrArg (pure : Int × Int × Int → Sem (Int × Int × Int)) (tail_bounds ha))) ?_)
  show wpAny _ _ (if ((1 : Int) == 1) = true then _ else _) _ _ s
  rw [if_pos (by decide)]
  refine wpAny_bind (wpAny_rule ?_)
  first
    | simp only [notLongL room, Bool.false_eq_true, if_false]
    | refine PySem.W.KFB.if_not (notLongL room) ?_
  first | refine wpAny_bind (wpAny_pure ?_) | skip
  show wpAny _ _ (updateSeq l (fun xs => xs.extract 0 ((a : Int)).toNat ++ ws ++ xs.extract (max (a : Int) (us.size : Int)).toNat xs.size) >>= _) _ _ s
  rw [top, Int.toNat_natCast]
  refine wpAny_bind (wpAny_updateSeq (hz := Nat.le_trans (Nat.le_add_right _ _) room) (_hz' := fit) e rfl (wpAny_bind (wpAny_letGo ?_)))
  first
    | exact wpAny_bind (wpAny_pure (wpAny_pure ⟨.none, rfl, wpAny_pure q⟩))
    | exact wpAny_pure ⟨.none, rfl, wpAny_pure q⟩
end
section
variable {X : Cx}
/-- xs[a:] = ys -/
def gSlL (to tl : TE) : TG := fun v σ H Q => to σ H fun x H1 => tPart tl σ H1 fun y H2 => ∃ z : Nat, y = some (z : Int) ∧ ∃ l b xs ys, x = .ref l ∧ v = .ref b ∧ H2 l = some (.lst xs) ∧ H2 b = some (.lst ys) ∧ l ≠ b ∧ z ≤ xs.length ∧ xs.length + ys.length ≤ sizeLine ∧ Q σ (upd H2 l (.lst (xs.take z ++ ys)))
theorem rd_slset {to tl : TE} {v : V} {σ : L2.St} {H : Hp} {Q : L2.St → Hp → Prop} (h : to σ H fun x H1 => tl σ H1 fun y H2 => ∃ i : Int, y = .int i ∧ ∃ z : Nat, some i = some (z : Int) ∧ ∃ l b xs ys, x = .ref l ∧ v = .ref b ∧ H2 l = some (.lst xs) ∧ H2 b = some (.lst ys) ∧ l ≠ b ∧ z ≤ xs.length ∧ xs.length + ys.length ≤ sizeLine ∧ Q σ (upd H2 l (.lst (xs.take z ++ ys)))) : gSlL to tl v σ H Q := h
theorem pg_slL {o lo : Expr} {to tl : TE} {p2 pos : Pos} (ho : PE X o to) (hl : PE X lo tl)
    (ha : ∀ v, assign (.Subscript o (.Slice (some lo) none none p2) pos) X.env v = (do
      let ov ← holding [v] (eval o X.env)
      let iv ← holding [v, ov] (eval (.Slice (some lo) none none p2) X.env)
      standAt pos
      holding [v, ov, iv] (setItem ov iv v)
      release [iv, v, ov] []) := by intro _; rfl) : PG X (.Subscript o (.Slice (some lo) none none p2) pos) (gSlL to tl) := by
  refine ⟨fun pins s σ H v u Q I r h => ?_⟩
  rw [ha]
  refine wpAny_bind (wpAny_holding (thn (ho.run pins s σ H _ I h) fun ov s1 ⟨x, H1, I1, r1, q1⟩ => ?_))
  refine wpAny_bind (wpAny_holding (wpAny_Slice (thn ((po_some hl).run pins s1 σ H1 (fun y H2 => ∃ z : Nat, y = some (z : Int) ∧ ∃ l b xs ys, x = .ref l ∧ v = .ref b ∧ H2 l = some (.lst xs) ∧ H2 b = some (.lst ys) ∧ l ≠ b ∧ z ≤ xs.length ∧ xs.length + ys.length ≤ sizeLine ∧ Q σ (upd H2 l (.lst (xs.take z ++ ys)))) I1 q1) fun vl s2 ⟨y, H2, I2, pl, q2⟩ => thn (po_none.run pins s2 σ H2 (fun o H3 => o = none ∧ H3 = H2) I2 ⟨rfl, rfl⟩) fun vu s3 ⟨o, H3, I3, pu, eo, eH⟩ => ?_)))
  subst eo eH
  obtain ⟨z, rfl, m, b, xs, ys, rfl, rfl, em, eb, ne, hz, room, q⟩ := q2
  rw [evalPart_none]
  refine wpAny_pure ?_
  cases r1
  cases r
  have I4 : Inv X pins σ H3 { s3 with heap := s3.heap.push { cls := .type "slice", data := .fields #[vl, vu, .none] } } := I3.kept (t' := s3.toks) fun b ob q => Heap.get?_push_of_some _ q
  obtain ⟨_, us, n, r1, hn, e1⟩ := I4.lstM em
  obtain ⟨_, ws, n2, r2, hn2, e2⟩ := I4.lstM eb
  refine wpAny_bind (wpAny_standAt (wpAny_bind (wpAny_holding ?_)))
  refine tail_set (a := z) e1 e2 ne (Heap.IsSliceOf.new ..) pl pu (by rw [List.size_toArray]; omega) (by rw [List.size_toArray, List.size_toArray]; omega) ?_
  refine wpAny_release ⟨σ, _, I4.lset (its' := us.take z ++ ws) (t' := s3.toks) em e1 ?_ ((r1.take _).append r2) ?_, q⟩
  · have := splice_eq us ws z us.length
    rw [List.drop_length, List.append_nil] at this
    rw [← this]
    simp
  · rw [List.length_append, List.length_take]
    omega
end
end L2

/-! MR11 -/
/-! A text so many times; isinstance of a caught error, with or without fields. -/
namespace Mw
open PySem PySem.Spec PyProof.Rows L2
def repS (z : Str) (n : Nat) : Str := ⟨(List.replicate n z.cps).foldl (· ++ ·) #[]⟩
theorem rep_size (z : Str) : ∀ (n : Nat) (acc : Array Nat), ((List.replicate n z.cps).foldl (· ++ ·) acc).size = acc.size + n * z.length
  | 0, acc => by simp
  | n + 1, acc => by
    rw [List.replicate_succ, List.foldl_cons, rep_size z n, Array.size_append, Nat.succ_mul]
    show acc.size + z.length + n * z.length = _
    omega
theorem rep_toList (z : Str) : ∀ (n : Nat) (acc : Array Nat), ((List.replicate n z.cps).foldl (· ++ ·) acc).toList = acc.toList ++ (List.replicate n z.cps.toList).flatten
  | 0, acc => by simp
  | n + 1, acc => by
    rw [List.replicate_succ, List.foldl_cons, rep_toList z n, Array.toList_append, List.replicate_succ, List.flatten_cons, List.append_assoc]
theorem op_mul_str {X : Cx} : OpR X (binaryOp .Mult) (fun x y H Q => ∃ (z : Str) (n : Nat), x = .str z ∧ y = .int (n : Int) ∧ 2 ≤ n ∧ n ≤ 1000 ∧ 1 ≤ z.length ∧ z.length ≤ 1000 ∧ Q (.str (repS z n)) H) := by
  intro pins s σ H x y v u Q I rx ry h
  obtain ⟨z, n, rfl, rfl, n2, n3, z1, z2, q⟩ := h
  obtain ⟨t, rfl⟩ := rx
  obtain ⟨t', rfl⟩ := ry
  have e1 : ¬ ((n : Int) < 1) := by omega
  have e2 : ((n : Int) == 1 || z.length == 0) = false := by
    rw [Bool.or_eq_false_iff]
    exact ⟨beq_eq_false_iff_ne.mpr (by omega), beq_eq_false_iff_ne.mpr (by omega)⟩
  have hmul : z.length * n ≤ 1000000 := Nat.mul_le_mul z2 n3
  have e3 : Builtin.Str.tooLong (z.length * (n : Int).toNat) = false := by
    rw [Int.toNat_natCast]
    unfold Builtin.Str.tooLong
    have : (1000000 : Nat) ≤ sizeLine := by decide
    exact decide_eq_false (by omega)
  refine P.mul_str (by
    rw [Bool.or_eq_false_iff]
    exact ⟨decide_eq_false (by omega), decide_eq_false (by omega)⟩) (fun _ _ => ?_) (fun _ _ => e3) ?_
  · have : (1000 : Int) ≤ (2 ^ 63 - 1) / (n : Int) := by
      rw [Int.le_ediv_iff_mul_le (by omega)]
      omega
    omega
  · rw [if_neg e1, e2, if_neg Bool.false_ne_true, Int.toNat_natCast]
    refine ⟨?_, ?_⟩
    · show ((List.replicate n z.cps).foldl (· ++ ·) #[]).size ≤ sizeLine
      rw [rep_size]
      have h1 : (1000000 : Nat) ≤ sizeLine := by decide
      have h2 : n * z.length ≤ 1000000 := by
        rw [Nat.mul_comm]
        exact hmul
      show 0 + n * z.length ≤ sizeLine
      omega
    · exact ⟨.str (repS z n), H, I.tok _, ⟨_, rfl⟩, q⟩
end Mw
namespace PySem.W
open PySem PySem.Spec PySem.Calls PyProof.Rows
section
variable {prog : Program} {w : World} {A : Around} {E : Value → Shared → Prop} {s : Shared} {K : Frag} {x D : Addr} {ox : Obj} {od : Option Obj}
theorem mw_find_class (C : L2.ExcC K D) : findObj K D od "__class__" = some (.bind (.builtin "getset_descriptor.__get__") (.builtin "object.__class__")) := by
  obtain ⟨cd, hc, _⟩ := any_some C.hd
  unfold findObj
  rw [hc, Option.bind_some, C.ha, Option.bind_some]
  simp [C.hn, C.ht]
theorem mw_class {Q : Option Value → Shared → Prop} (C : L2.ExcC K D) (X : K.In s.heap) (I : InstAt s.heap x ox D od) (h : Q (some (.ref D)) { s with toks := s.toks + 1 }) :
    wpAny (model prog w) A (getAttr? (.ref x) "__class__") Q E s := by
  obtain ⟨hp, g, d, t, os⟩ := s
  have T0 := I.type (M := model prog w)
  have T1 := looks_findIn (M := model prog w) X C.hg
  have T2 := looks_findIn (M := model prog w) X C.hk
  have T3 := looks_find (M := model prog w) X I (mw_find_class C)
  have isB : Looks (model prog w) hp (isInstance (.ref x) (.type "BaseException")) true := T0.andThen (looks_subIn X C.hs)
  have n2 : (Value.builtin "BaseException.__getattribute__" == Value.builtin "object.__getattribute__") = false := by decide +kernel
  have n1 : (onTheHeap (Value.ref D) && Value.builtin "BaseException.__getattribute__" == Value.builtin "object.__getattribute__") = false := by
    rw [n2]
    rfl
  have n0 : (false && onTheHeap (Value.builtin "BaseException.__getattribute__")) = false := rfl
  unfold getAttr? getAttrBy? getAttrBy
  refine wpAny_bind (wpAny_mkText (wpAny_bind (wpAny_attempt (wpAny_holding (wpAny_bind (T0.at (wpAny_bind (T1.at ?_))))))))
  show wpAny _ _ (ite ((onTheHeap (Value.ref D) && Value.builtin "BaseException.__getattribute__" == Value.builtin "object.__getattribute__") = true) _ _) _ _ _
  rw [n1, if_neg Bool.false_ne_true]
  unfold getAttrByItsOwn hookBefore
  refine wpAny_bind ?_
  rw [if_pos (show onTheHeap (Value.ref D) = true from rfl)]
  refine T2.at (wpAny_bind (wpAny_attempt (wpAny_holding ?_)))
  unfold callGetattribute
  rw [n0, if_neg Bool.false_ne_true]
  unfold boundAndCalled
  rw [PySem.F.excAttr_ValueError.ga.bind (.ref x)]
  refine wpAny_bind (wpAny_pure ?_)
  show wpAny _ _ (call (.builtin "BaseException.__getattribute__") [.ref x, .str "__class__" t]) _ _ _
  refine wpAny_call (codeAny_call_builtin PySem.F.excAttr_ValueError.ga.plain PySem.F.entry_bexc_ga ?_)
  refine @check_slot (model prog w) _ _ ⟨hp, g, d, t + 1, os⟩ "BaseException.__getattribute__" "BaseException" "__getattribute__" (.ref x) [.str "__class__" t] [] _ (by decide +kernel) (by decide +kernel) isB (PySem.F.args_bexc_ga (.ref x) (.str "__class__" t)) ?_
  unfold Builtin.«object.__getattribute__»
  refine wpAny_bind (wpAny_of_eq (a := ((Value.ref x : Value), [Value.str "__class__" t])) (by first | rfl | (simp only [slotArgs]; rfl)) ?_)
  refine wpAny_bind (wpAny_pure (wpAny_bind (T0.at (wpAny_bind (T3.at ?_)))))
  show wpAny _ _ (holding [Value.builtin "object.__class__"] (call (.builtin "getset_descriptor.__get__") [.builtin "object.__class__", .ref x, .ref D]) >>= ret) _ _ _
  refine wpAny_bind (wpAny_holding (wpAny_call (class_get (s := ⟨hp, g, d, t + 1, os⟩) (ox := ox) (od := od) X I C.hm ?_)))
  refine wpAny_pure ?_
  show wpAny _ _ (handedOut (.ref D)) _ _ _
  rw [handedOut_of (v := .ref D) rfl]
  first
    | exact wpAny_pure (wpAny_pure h)
    | exact wpAny_pure h
    | exact wpAny_pure (wpAny_bind (wpAny_pure (wpAny_pure h)))
theorem mw_kitx (C : L2.ExcC K D) : KitX K (.ref x) (.ref D) (fun h => InstAt h x ox D od) where
  ty := fun _ _ _ I => I.type
  it := fun _ _ X _ => by
    obtain ⟨cdD, hcD, _⟩ := any_some C.hd
    unfold clsIn at hcD
    split at hcD
    · rename_i c' d' cd' sl' ho
      intro A' Q' E' s' k q
      unfold isType loadHead
      exact wpAny_bind (wpAny_loadPart (k _ _ (X _ _ ho)) (wpAny_pure q))
    · cases hcD
  ne := fun h tp dd its n sl X htp => by
    obtain ⟨cdD, hcD, _⟩ := any_some C.hd
    refine Bool.eq_false_iff.mpr fun q => ?_
    have e : D = tp := Value.ref.inj (beq_iff_eq.mp q)
    subst e
    unfold clsIn at hcD
    split at hcD
    · rename_i c' d' cd' sl' ho
      cases (X _ _ ho).symm.trans htp
    · cases hcD
  ca := fun X I k => mw_class C X I k
end
end PySem.W
namespace Mw
open PySem PySem.Spec PyProof.Rows L2
/-- isinstance(e, c), e the exception that the suite holds, with fields or without -/
def rIsEx (K : PySem.W.Frag) (a : Addr) (cls : Value) (d : Option Addr) : List V → Hp → VK → Prop := fun xs H Q => ∃ (D : Addr) (c : V) (cv : Value) (b : Bool), xs = [.ref a, c] ∧ cls = .ref D ∧ ExcC K D ∧ (d = none ∨ ∃ dd fs, d = some dd ∧ H dd = some (.xd fs)) ∧ ClsV c cv ∧ PySem.W.kitOne K (.ref D) cv = some b ∧ Q (.bl b) H
theorem call_isEx {X : Cx} {a : Addr} {cls : Value} {d : Option Addr} {oe : Obj} {pn : List (Addr × Obj)} (hz : Zc cls d oe) (hf : ∃ vs, oe.data = .fields vs) : CallR (X.suite a ((a, oe) :: pn)) (.builtin "isinstance") (rIsEx X.K a cls d) := by
  intro pins s σ H xs us Q I r h
  obtain ⟨D, c, cv, b, rfl, ec, C, hd, hcv, e, q⟩ := h
  cases r with
  | cons rx rr =>
    cases rr with
    | cons rt rr =>
      cases rr
      cases rx
      have ecv := hcv.eq rt
      subst ecv
      subst ec
      obtain ⟨hget, _⟩ := I.pin (a, oe) (List.mem_append.mpr (.inl List.mem_cons_self))
      obtain ⟨vs, hv⟩ := hf
      have hno : PySem.W.notCls oe = true := by
        unfold PySem.W.notCls
        rw [hv] <;> rfl
      rcases hd with hd | ⟨dd, fs, hd, hx⟩
      · subst hd
        have J : PySem.W.InstAt s.heap a oe D none := ⟨hget, hz.1, hno, by rw [hz.2]; trivial⟩
        exact PySem.W.kia_one (PySem.W.mw_kitx C) I.kIn J e (fun z => nomatch z) fun tk => ⟨.bl b, H, I.kept (t' := tk) fun _ _ z => z, rfl, q⟩
      · subst hd
        have hob : ObjOk X.prog X.w H s.heap dd (.xd fs) := I.hok dd _ hx
        obtain ⟨mA, hns, hr⟩ := hob
        obtain ⟨od, ho, hl⟩ := lookIn_ns hns
        have J : PySem.W.InstAt s.heap a oe D (some od) := ⟨hget, hz.1, hno, by rw [hz.2]; exact ho⟩
        exact PySem.W.kia_one (PySem.W.mw_kitx C) I.kIn J e (fun z => nomatch z) fun tk => ⟨.bl b, H, I.kept (t' := tk) fun _ _ z => z, rfl, q⟩
end Mw

/-! MR14 -/
/-! xs.count(y) of a list of flat things. -/
namespace L2
open PySem PySem.Spec PyProof.Rows
theorem cnt_flat {y : V} : ∀ {ys : List V} {us : List Value}, Vals ys us → ys.all flatV = true → us.countP (eqU y) = ys.countP fun z => eqV z y
  | _, _, .nil, _ => rfl
  | z :: ys, u :: us, .cons r t, f => by
    rw [List.all_cons, Bool.and_eq_true] at f
    rw [List.countP_cons, List.countP_cons, cnt_flat t f.2, eqU_of r f.1]
def rCntF (K : PySem.W.Frag) : V → List V → Hp → VK → Prop := fun x xs H Q => ∃ (a : Addr) (ys : List V) (y : V), x = V.ref a ∧ xs = [y] ∧ SqL K H a ys ∧ flatV y = true ∧ ys.all flatV = true ∧ Q (.int ((ys.countP fun z => eqV z y : Nat))) H
section
variable {X : Cx}
theorem mt_lcountF : MtR X "list.count" (rCntF X.K) := by
  intro pins s σ H x xs v us Q I rx rxs h
  obtain ⟨a, ys, y, rfl, rfl, hs, fy, fys, q⟩ := h
  cases rx
  cases rxs with
  | cons ry rt =>
    rename_i uy ut
    cases rt
    obtain ⟨its, rv, ⟨⟨cls, dd, data, sl⟩, n, ho, hc, hdn, hd⟩, hlen⟩ := I.list hs
    simp only at hc hd
    subst hc hd
    refine call_meets PySem.F.slot_list_count ⟨_, ho, rfl⟩ PySem.F.entry_list_count (PySem.F.args_list_count_2 _ _) (SeqAt.list_countAt a its.toArray n dd sl uy (eqU y)) ⟨ho, fun u hu => mem_eqAt ry fy rv fys u (by simpa using hu), ?_⟩
    refine ⟨.int ((ys.countP fun z => eqV z y : Nat)), H, I.tok _, ⟨s.toks, ?_⟩, q⟩
    show Value.int ((its.countP (eqU y) : Nat) : Int) s.toks = _
    rw [cnt_flat rv fys]
end
end L2

/-! MR15 -/
/-! o.m(e, ..) within a try: what it lets out is caught at the slots as they stand. -/
namespace L2
open PySem PySem.Spec PyProof.Rows
def tMethT (C : Addr) (m : Str) (sp : Sp) (E : L2.St → XK) (ta : TE) (t : TA) : TE := fun σ H Q => ta σ H fun x H1 => ∃ a dx fs, x = .ref a ∧ H1 a = some (.ins C dx fs) ∧ fs.lookup m = none ∧ t σ H1 fun vs H2 => sp (x :: vs) H2 Q (E σ)
theorem rd_methT {C : Addr} {m : Str} {sp : Sp} {E : L2.St → XK} {ta : TE} {t : TA} {σ : L2.St} {H : Hp} {Q : VK} (h : ta σ H fun x H1 => ∃ a dx fs, x = .ref a ∧ H1 a = some (.ins C dx fs) ∧ fs.lookup m = none ∧ t σ H1 fun vs H2 => sp (x :: vs) H2 Q (E σ)) : tMethT C m sp E ta t σ H Q := h
section
variable {X : Cx} {CX : CXT} {k : Nat} {f C : Addr} {fd : FuncData} {ps : List Str} {sp : Sp} {E : L2.St → XK} {m : Str} {pos apos : Pos} {e o : Expr} {es : List Expr} {ta : TE} {t : TA}
theorem pe_methT {pl : Sem Bool} (ho : PE X o ta) (c : Cls X.K C) (hm : Meth X.K C m f) (F : FnOk X.prog X.w X.K X.mg X.base CX k f fd ps sp) (hr : Room k X.A) (hb : Binds X.K fd ps []) (hx : ∀ σ, PassesAt CX X σ (E σ)) (ha : PA X (e :: es) t)
    (h1 : starEach (e :: es) X.env = (false, eval e X.env) :: starEach es X.env := by rfl) (h2 : (backTo pos (starEach es X.env)).any (·.1) = false := by rfl)
    (h3 : eval (.Call (.Attribute o m apos) (e :: es) [] pos) X.env = (do
      let ov ← eval o X.env
      standAt apos.atName
      let (f, first) ← holding [ov] (getMethod ov m pl)
      callWith pos f first (backTo pos (starEach (e :: es) X.env)) (backToKw pos (keywordEach [] X.env))) := by rfl) : PE X (.Call (.Attribute o m apos) (e :: es) [] pos) (tMethT C m sp E ta t) := by
  refine ⟨fun pins s σ H Q I h => PySem.W.methodCall_KW (pl := pl) (thn (ho.run pins s σ H _ I h) fun u s1 ⟨x, H1, I1, rx, a, dx, fs, ex, ea, l, q⟩ => ?_) h3⟩
  subst ex
  obtain rfl : u = Value.ref a := rx
  refine getmeth_ok I1 ea c hm l (PySem.W.callWith_K (first := [.ref a]) (h₀ := X.base) I.ok.mod.kin hm.kp (thn (ha.run pos pins s1 σ H1 _ I1 q) fun us s2 ⟨vs, H2, I2, r, q2⟩ => ⟨I2.kIn, ?_⟩) h1 h2)
  exact run_fnS (us := .ref a :: us) (vs := .ref a :: vs) F hr hb (hx σ) I2 (.cons rfl r) q2
end
end L2

/-! MR16 -/
/-! A def that is called in an except suite with the error that the suite holds, and asks isinstance of it. -/
namespace Mw
open PySem PySem.Spec PyProof.Rows L2
/-- a promise over the error at an address, of a class, with its dict -/
abbrev SpE := Addr → Value → Option Addr → Sp
structure FnE (P : Program) (w : World) (K : PySem.W.Frag) (mg : Str → Option Value) (base : Heap) (k : Nat) (f : Addr) (fd : FuncData) (ps : List Str) (sp : SpE) : Prop where
  len : ∀ a c d vs H Q E, sp a c d vs H Q E → vs.length = ps.length
  run : ∀ (p : Addr × Obj) (c : Value) (d : Option Addr) (A : Around) (outer : List Env) (s : Shared) (H : Hp) (args : Args) (us : List Value) (vs : List V) (Q : VK) (E : XK),
    Zc c d p.2 → (∃ z, p.2.data = .fields z) → L2H.RoomH k A → L2H.PinOk outer H s p → Env0 P w K mg base A outer s H → BindsTo s fd args (ps.zip us) → Vals vs us → sp p.1 c d vs H Q E →
      codeAny (model P w) A (.call (.ref f) args) (CR CX0 outer P w H s Q E) s
theorem okE {P : Program} {w : World} {K : PySem.W.Frag} {mg : Str → Option Value} {base : Heap} {x qual : Str} {st : Stmt} {f : Addr} {fd : FuncData} {N ps : List Str} {k : Nat} {sp : SpE} (F : Fun K x qual st f fd) (S : FnScope N ps (defScope st))
    (len : ∀ a c d vs H Q E, sp a c d vs H Q E → vs.length = ps.length)
    (hb : ∀ (p : Addr × Obj) (c : Value) (d : Option Addr) (cdv : Value) (A : Around) (outer : List Env) (s : Shared) (H : Hp) (vs : List V) (Q : VK) (E : XK), Zc c d p.2 → (∃ z, p.2.data = .fields z) →
      L2H.RoomH k (A.deeper (envOfC qual (defScope st) s.heap.objs.size f cdv)) → sp p.1 c d vs H Q E →
      ∃ t, PSs (L2H.cxH CX0 P w K mg base N qual (defScope st) f cdv A outer s H E p).nox (defBody st) t ∧ t { nx := fun _ G => Q .non G, rt := Q } (start N vs) H) : FnE P w K mg base (k + 1) f fd ps sp := by
  obtain ⟨z1, z2, z3, z4, z5, z6, cdv, z7, z8, efd, lk0, hc0⟩ := F.ex
  subst efd
  refine ⟨len, fun p c d A outer s H args us vs Q E hz hf rm pn e0 bn rv sp0 => ?_⟩
  have hl := len _ _ _ _ _ _ _ sp0
  have kin0 : K.In s.heap := e0.mod.kin.keeps fun b o q => (e0.bs b o q).1
  have lim0 : s.heap.NoLimit := e0.mod.nolimit.keeps fun b o q => (e0.bs b o q).1
  have kinds : ∀ y ∈ ps.zip us, (defScope st).names.lookup y.1 = some .local ∨ ((defScope st).names.lookup y.1 = some .cell ∧ ((cellsFrom (s.heap.objs.size + 1) (defScope st).names []).lookup y.1).isSome = true) := by
    rintro ⟨n, v⟩ hy
    have hm := (List.of_mem_zip hy).1
    rcases S.par n hm with q | q
    · exact Or.inl q
    · exact Or.inr ⟨q, PySem.W.cellsFrom_some _ _ _ (Or.inl q)⟩
  refine codeAny_call_function rm.depth (kin0 _ _ lk0) rfl S.co S.gen rfl (PySem.W.codeRec_of kin0 hc0) (bn _ _ _ _ ?_)
  refine wpAny_newFunctionEnv_cells S.kind kinds fun en hen s1 ic => ?_
  subst hen
  refine ⟨lim0.keeps ic.toInCall.keep, codeAny_func ?_⟩
  obtain ⟨t, ht0, q0⟩ := hb p c d cdv A outer s H vs Q E hz hf (rm.deeper _) sp0
  have ht := ht0.nox
  have I0 := L2H.inv_startH (CX := CX0) (cd := cdv) (f := f) (qual := qual) (E := E) S pn e0 hl rv ic
  refine wpAny_mono (ht.run [] s1 (start N vs) H _ I0 q0) (fun fl s2 hs => ?_) fun _ _ hs => hs
  cases fl with
  | ret u =>
    obtain ⟨v, _, H2, J, r2, q2⟩ := hs
    exact ⟨v, H2, J.os, J.bare, J.base, J.hok, r2, q2⟩
  | next =>
    obtain ⟨_, H2, J, q2⟩ := hs
    exact ⟨V.non, H2, J.os, J.bare, J.base, J.hok, rfl, q2⟩
  | brk =>
    obtain ⟨_, _, _, z⟩ := hs
    exact z.elim
  | cont =>
    obtain ⟨_, _, _, z⟩ := hs
    exact z.elim
/-- isinstance(e, c), e pinned -/
theorem call_isP {X : Cx} {p : Addr × Obj} {cls : Value} {d : Option Addr} (hp : p ∈ X.pn) (hz : Zc cls d p.2) (hf : ∃ z, p.2.data = .fields z) : CallR X (.builtin "isinstance") (rIsEx X.K p.1 cls d) := by
  intro pins s σ H xs us Q I r h
  obtain ⟨D, c, cv, b, rfl, ec, C, hd, hcv, e, q⟩ := h
  subst ec
  cases r with
  | cons rx rr =>
    cases rr with
    | cons rt rr =>
      cases rr
      cases rx
      have ecv := hcv.eq rt
      subst ecv
      have hget := (I.pin p (List.mem_append.mpr (.inl hp))).1
      obtain ⟨z, hv⟩ := hf
      have hno : PySem.W.notCls p.2 = true := by
        unfold PySem.W.notCls
        rw [hv] <;> rfl
      rcases hd with hd | ⟨dd, fs, hd, hx⟩
      · subst hd
        have J : PySem.W.InstAt s.heap p.1 p.2 D none := ⟨hget, hz.1, hno, by rw [hz.2]; trivial⟩
        exact PySem.W.kia_one (PySem.W.mw_kitx C) I.kIn J e (fun z => nomatch z) fun tk => ⟨.bl b, H, I.kept (t' := tk) fun _ _ z => z, rfl, q⟩
      · subst hd
        have hob : ObjOk X.prog X.w H s.heap dd (.xd fs) := I.hok dd _ hx
        obtain ⟨mA, hns, hr⟩ := hob
        obtain ⟨od, ho, hl⟩ := lookIn_ns hns
        have J : PySem.W.InstAt s.heap p.1 p.2 D (some od) := ⟨hget, hz.1, hno, by rw [hz.2]; exact ho⟩
        exact PySem.W.kia_one (PySem.W.mw_kitx C) I.kIn J e (fun z => nomatch z) fun tk => ⟨.bl b, H, I.kept (t' := tk) fun _ _ z => z, rfl, q⟩
theorem roomE {j k : Nat} {X : Cx} {a : Addr} {pn : List (Addr × Obj)} (hr : Room k X.A) (h : j ≤ k) : L2H.RoomH j (X.suite a pn).A := ⟨(hr.mono h).dp, (hr.mono h).un⟩
section
variable {X : Cx} {k : Nat} {f : Addr} {fd : FuncData} {ps : List Str} {sp : SpE} {x : Str} {q pos : Pos} {e : Expr} {es : List Expr} {t : TA} {p : Addr × Obj} {cls : Value} {d : Option Addr}
/-- f(e, ..) in a suite, the error among the arguments -/
theorem pe_callE (F : FnE X.prog X.w X.K X.mg X.base k f fd ps sp) (rm : L2H.RoomH k X.A) (hp : p ∈ X.pn) (hz : Zc cls d p.2) (hf : ∃ z, p.2.data = .fields z) (hg : Gl X x) (hm : X.mg x = some (.ref f)) (hk : PySem.W.keepIn X.K (.ref f) = true) (hb : Binds X.K fd ps [])
    (ha : PA X (e :: es) t) (h0 : (x == ("__debug__" : Str)) = false := by decide) (h1 : starEach (e :: es) X.env = (false, eval e X.env) :: starEach es X.env := by rfl) (h2 : (backTo pos (starEach es X.env)).any (·.1) = false := by rfl) :
    PE X (.Call (.Name x q) (e :: es) [] pos) (tCallS (sp p.1 cls d) (fun _ => E0) t) := by
  constructor
  intro pins s σ H Q I h
  refine wpAny_Call_Name_kw (ld_glob I hg hm ?_ h0)
  refine PySem.W.callWith_K (h₀ := X.base) I.ok.mod.kin hk (thn (ha.run pos pins s σ H _ I h) fun us s1 ⟨vs, G, J, r, w⟩ => ⟨J.kIn, ?_⟩) h1 h2
  have hl : us.length = ps.length := by
    rw [← r.length]
    exact F.len _ _ _ _ _ _ _ w
  have bn := hb s1 us J.kIn (by rw [List.append_nil]; exact hl)
  rw [List.append_nil] at bn
  obtain ⟨g1, g2, g3, g4, g5⟩ := J.pin p (List.mem_append_left _ hp)
  have pk : L2H.PinOk X.stack G s1 p := ⟨g1, g2, fun hm => by
    rcases List.mem_cons.mp (J.stkSub p.1 hm) with z | z
    · exact g3 z
    · exact g4 z, g5⟩
  refine wpAny_call (codeAny_mono (F.run p cls d X.A X.stack s1 G ⟨us, []⟩ us vs Q E0 hz hf rm pk J.env0 bn r w) ?_)
  rintro (e | (_ | _ | _ | u)) s2 z
  · exact (show False from z).elim
  · exact (show False from z).elim
  · exact (show False from z).elim
  · exact (show False from z).elim
  · exact J.after z
end
end Mw

/-! MS -/
/-! The text by places, what the top leaves. -/
namespace Mw
open PySem L2
abbrev SC_SIGNS : Str := " !\"#$ &'()*+,-./0123456789:;<=>?@ABCDEFGHIJKLMNOPQRSTUVWXYZ[\\]^_`abcdefghijklmnopqrstuvwxyz{|}~"
def top (i : Nat) : Stmt := PySem.Challenge.pw_moststream_k31_links_rows_and_disks_refu.main.body.getD i (.Pass ⟨0, 0, 0, 0⟩)
/-- what the top has left: the names of the built-in things are free, the classes stand -/
structure Tx (K : PySem.W.Frag) (mg : Str → Option Value) where
  c_Disk : Addr
  c_Outgoing : Addr
  c_Incoming : Addr
  c_StreamError : Addr
  c_NoNumber : Addr
  c_NoCut : Addr
  c_NoBlocks : Addr
  c_NoParcel : Addr
  c_NoRow : Addr
  c_BadRow : Addr
  b_isinstance : mg "isinstance" = none
  b_int : mg "int" = none
  b_bool : mg "bool" = none
  b_tuple : mg "tuple" = none
  b_list : mg "list" = none
  b_str : mg "str" = none
  b_len : mg "len" = none
  b_range : mg "range" = none
  b_zip : mg "zip" = none
  b_min : mg "min" = none
  b_all : mg "all" = none
  b_sum : mg "sum" = none
  b_abs : mg "abs" = none
  b_ord : mg "ord" = none
  b_repr : mg "repr" = none
  b_dict : mg "dict" = none
  b_max : mg "max" = none
  b_sorted : mg "sorted" = none
  b_enumerate : mg "enumerate" = none
  b_ValueError : mg "ValueError" = none
  g_Disk : mg "Disk" = some (.ref c_Disk)
  g_Outgoing : mg "Outgoing" = some (.ref c_Outgoing)
  g_Incoming : mg "Incoming" = some (.ref c_Incoming)
  g_StreamError : mg "StreamError" = some (.ref c_StreamError)
  g_NoNumber : mg "NoNumber" = some (.ref c_NoNumber)
  g_NoCut : mg "NoCut" = some (.ref c_NoCut)
  g_NoBlocks : mg "NoBlocks" = some (.ref c_NoBlocks)
  g_NoParcel : mg "NoParcel" = some (.ref c_NoParcel)
  g_NoRow : mg "NoRow" = some (.ref c_NoRow)
  g_BadRow : mg "BadRow" = some (.ref c_BadRow)
  k1 : Tok
  k2 : Tok
  k3 : Tok
  k4 : Tok
  k5 : Tok
  k6 : Tok
  k7 : Tok
  k8 : Tok
  k9 : Tok
  k10 : Tok
  k11 : Tok
  k12 : Tok
  k13 : Tok
  k14 : Tok
  k15 : Tok
  k16 : Tok
  k17 : Tok
  k18 : Tok
  k19 : Tok
  g_NONE : mg "NONE" = some (.int 0 k1)
  g_NO : mg "NO" = some (.int 1 k2)
  g_YES : mg "YES" = some (.int 2 k3)
  g_FROM_ZERO : mg "FROM_ZERO" = some (.int 3 k4)
  g_BELOW_ZERO : mg "BELOW_ZERO" = some (.int 4 k5)
  g_STRING : mg "STRING" = some (.int 5 k6)
  g_TUPLE : mg "TUPLE" = some (.int 6 k7)
  g_MOST_SIGNS : mg "MOST_SIGNS" = some (.int 20 k8)
  g_MOST_DEEP : mg "MOST_DEEP" = some (.int 20 k9)
  g_BYTE_LIMIT : mg "BYTE_LIMIT" = some (.int 256 k10)
  g_FIGURE_LIMIT : mg "FIGURE_LIMIT" = some (.int 128 k11)
  g_MARK_LIMIT : mg "MARK_LIMIT" = some (.int 2305843009213693951 k12)
  g_SEAL_LENGTH : mg "SEAL_LENGTH" = some (.int 4 k13)
  g_LEAST_SIGN : mg "LEAST_SIGN" = some (.int 32 k14)
  g_GREATEST_SIGN : mg "GREATEST_SIGN" = some (.int 126 k15)
  g_NO_SIGN : mg "NO_SIGN" = some (.int 37 k16)
  g_NUMBER_LIMIT : mg "NUMBER_LIMIT" = some (.int 4294967296 k18)
  g_HELD_AHEAD : mg "HELD_AHEAD" = some (.int 1000 k19)
  g_SIGNS : mg "SIGNS" = some (.str SC_SIGNS k17)
  x_NoParcel : OexC K c_NoParcel
  x_NoNumber : OexC K c_NoNumber
  x_NoCut : OexC K c_NoCut
  x_NoBlocks : OexC K c_NoBlocks
  W_Disk : WebTy K c_Disk
  W_Outgoing : WebTy K c_Outgoing
  W_Incoming : WebTy K c_Incoming
  mk_Disk : PySem.W.makesIn K c_Disk = true ∧ PySem.W.keepIn K (.ref c_Disk) = true
  mk_Outgoing : PySem.W.makesIn K c_Outgoing = true ∧ PySem.W.keepIn K (.ref c_Outgoing) = true
  mk_Incoming : PySem.W.makesIn K c_Incoming = true ∧ PySem.W.keepIn K (.ref c_Incoming) = true
  na_rows : NoAttr K c_Disk "rows"
  na_firm : NoAttr K c_Disk "firm"
  na_let_go : NoAttr K c_Outgoing "let_go"
  na_things : NoAttr K c_Outgoing "things"
  na_many : NoAttr K c_Incoming "many"
  na_ahead : NoAttr K c_Incoming "ahead"
  x_NoRow : OexC K c_NoRow
  x_BadRow : OexC K c_BadRow
  na_place : PySem.W.findIn K (.ref c_BadRow) "place" = some none
  e_BadRowBadRow : PySem.W.exmOne K (.ref c_BadRow) (.ref c_BadRow) = some true
  e_NoNumberNoNumber : PySem.W.exmOne K (.ref c_NoNumber) (.ref c_NoNumber) = some true
  r_NoRowStream : PySem.W.exmOne K (.ref c_NoRow) (.ref c_StreamError) = some true
  r_NoParcelStream : PySem.W.exmOne K (.ref c_NoParcel) (.ref c_StreamError) = some true
  r_NoCutStream : PySem.W.exmOne K (.ref c_NoCut) (.ref c_StreamError) = some true
  r_NoNumberStream : PySem.W.exmOne K (.ref c_NoNumber) (.ref c_StreamError) = some true
  r_NoBlocksStream : PySem.W.exmOne K (.ref c_NoBlocks) (.ref c_StreamError) = some true
  xc_NoRow : ExcC K c_NoRow
  xc_NoParcel : ExcC K c_NoParcel
  xc_NoCut : ExcC K c_NoCut
  xc_NoNumber : ExcC K c_NoNumber
  xc_NoBlocks : ExcC K c_NoBlocks
  q_NoRowNoRow : PySem.W.kitOne K (.ref c_NoRow) (.ref c_NoRow) = some true
  q_NoRowNoParcel : PySem.W.kitOne K (.ref c_NoRow) (.ref c_NoParcel) = some false
  q_NoRowNoCut : PySem.W.kitOne K (.ref c_NoRow) (.ref c_NoCut) = some false
  q_NoRowNoNumber : PySem.W.kitOne K (.ref c_NoRow) (.ref c_NoNumber) = some false
  q_NoRowNoBlocks : PySem.W.kitOne K (.ref c_NoRow) (.ref c_NoBlocks) = some false
  q_NoRowVe : PySem.W.kitOne K (.ref c_NoRow) (.type "ValueError") = some true
  q_NoParcelNoRow : PySem.W.kitOne K (.ref c_NoParcel) (.ref c_NoRow) = some false
  q_NoParcelNoParcel : PySem.W.kitOne K (.ref c_NoParcel) (.ref c_NoParcel) = some true
  q_NoParcelNoCut : PySem.W.kitOne K (.ref c_NoParcel) (.ref c_NoCut) = some false
  q_NoParcelNoNumber : PySem.W.kitOne K (.ref c_NoParcel) (.ref c_NoNumber) = some false
  q_NoParcelNoBlocks : PySem.W.kitOne K (.ref c_NoParcel) (.ref c_NoBlocks) = some false
  q_NoParcelVe : PySem.W.kitOne K (.ref c_NoParcel) (.type "ValueError") = some true
  q_NoCutNoRow : PySem.W.kitOne K (.ref c_NoCut) (.ref c_NoRow) = some false
  q_NoCutNoParcel : PySem.W.kitOne K (.ref c_NoCut) (.ref c_NoParcel) = some false
  q_NoCutNoCut : PySem.W.kitOne K (.ref c_NoCut) (.ref c_NoCut) = some true
  q_NoCutNoNumber : PySem.W.kitOne K (.ref c_NoCut) (.ref c_NoNumber) = some false
  q_NoCutNoBlocks : PySem.W.kitOne K (.ref c_NoCut) (.ref c_NoBlocks) = some false
  q_NoCutVe : PySem.W.kitOne K (.ref c_NoCut) (.type "ValueError") = some true
  q_NoNumberNoRow : PySem.W.kitOne K (.ref c_NoNumber) (.ref c_NoRow) = some false
  q_NoNumberNoParcel : PySem.W.kitOne K (.ref c_NoNumber) (.ref c_NoParcel) = some false
  q_NoNumberNoCut : PySem.W.kitOne K (.ref c_NoNumber) (.ref c_NoCut) = some false
  q_NoNumberNoNumber : PySem.W.kitOne K (.ref c_NoNumber) (.ref c_NoNumber) = some true
  q_NoNumberNoBlocks : PySem.W.kitOne K (.ref c_NoNumber) (.ref c_NoBlocks) = some false
  q_NoNumberVe : PySem.W.kitOne K (.ref c_NoNumber) (.type "ValueError") = some true
  q_NoBlocksNoRow : PySem.W.kitOne K (.ref c_NoBlocks) (.ref c_NoRow) = some false
  q_NoBlocksNoParcel : PySem.W.kitOne K (.ref c_NoBlocks) (.ref c_NoParcel) = some false
  q_NoBlocksNoCut : PySem.W.kitOne K (.ref c_NoBlocks) (.ref c_NoCut) = some false
  q_NoBlocksNoNumber : PySem.W.kitOne K (.ref c_NoBlocks) (.ref c_NoNumber) = some false
  q_NoBlocksNoBlocks : PySem.W.kitOne K (.ref c_NoBlocks) (.ref c_NoBlocks) = some true
  q_NoBlocksVe : PySem.W.kitOne K (.ref c_NoBlocks) (.type "ValueError") = some true
/-- a def of the top by its name -/
structure Df (K : PySem.W.Frag) (mg : Str → Option Value) (x : Str) (st : Stmt) (ps : List Str) where
  f : Addr
  fd : FuncData
  F : Fun K x x st f fd
  m : mg x = some (.ref f)
  b : Binds K fd ps []
/-- a method of a class -/
structure Dm (K : PySem.W.Frag) (C : Addr) (x q : Str) (st : Stmt) (ps : List Str) where
  f : Addr
  fd : FuncData
  F : Fun K x q st f fd
  a : PySem.W.findIn K (.ref C) x = some (some (.ref f))
  i : PySem.W.isFn K (.ref f) = true
  t : PySem.W.typeIn K (.ref f) = some (.type "function")
  b : Binds K fd ps []
/-- the classes whose objects are met -/
def Tx.CP {K : PySem.W.Frag} {mg : Str → Option Value} (T : Tx K mg) : Addr → Prop := fun C => C = T.c_Disk ∨ C = T.c_Outgoing ∨ C = T.c_Incoming
theorem Tx.W {K : PySem.W.Frag} {mg : Str → Option Value} (T : Tx K mg) : ∀ C, T.CP C → WebTy K C := fun C h => by
  rcases h with h | h | h
  · rw [h]
    exact T.W_Disk
  · rw [h]
    exact T.W_Outgoing
  · rw [h]
    exact T.W_Incoming
abbrev s_wall : Stmt := top 0
theorem sc_wall : FnScope ["k"] ["k"] (defScope s_wall) := ⟨rfl, rfl, rfl, by decide +kernel, rfl, by decide +kernel, by decide +kernel⟩
abbrev s_NoNumber_init : Stmt := inClass (top 3) 0
theorem sc_NoNumber_init : FnScope ["self"] ["self"] (defScope s_NoNumber_init) := ⟨rfl, rfl, rfl, by decide +kernel, rfl, by decide +kernel, by decide +kernel⟩
abbrev s_NoParcel_init : Stmt := inClass (top 4) 0
theorem sc_NoParcel_init : FnScope ["self"] ["self"] (defScope s_NoParcel_init) := ⟨rfl, rfl, rfl, by decide +kernel, rfl, by decide +kernel, by decide +kernel⟩
abbrev s_NoRow_init : Stmt := inClass (top 5) 0
theorem sc_NoRow_init : FnScope ["self"] ["self"] (defScope s_NoRow_init) := ⟨rfl, rfl, rfl, by decide +kernel, rfl, by decide +kernel, by decide +kernel⟩
abbrev s_BadRow_init : Stmt := inClass (top 6) 0
theorem sc_BadRow_init : FnScope ["self", "place"] ["self", "place"] (defScope s_BadRow_init) := ⟨rfl, rfl, rfl, by decide +kernel, rfl, by decide +kernel, by decide +kernel⟩
abbrev s_NoCut_init : Stmt := inClass (top 7) 0
theorem sc_NoCut_init : FnScope ["self"] ["self"] (defScope s_NoCut_init) := ⟨rfl, rfl, rfl, by decide +kernel, rfl, by decide +kernel, by decide +kernel⟩
abbrev s_NoBlocks_init : Stmt := inClass (top 8) 0
theorem sc_NoBlocks_init : FnScope ["self"] ["self"] (defScope s_NoBlocks_init) := ⟨rfl, rfl, rfl, by decide +kernel, rfl, by decide +kernel, by decide +kernel⟩
abbrev s_is_int : Stmt := top 10
theorem sc_is_int : FnScope ["thing"] ["thing"] (defScope s_is_int) := ⟨rfl, rfl, rfl, by decide +kernel, rfl, by decide +kernel, by decide +kernel⟩
abbrev s_is_number : Stmt := top 11
theorem sc_is_number : FnScope ["thing"] ["thing"] (defScope s_is_number) := ⟨rfl, rfl, rfl, by decide +kernel, rfl, by decide +kernel, by decide +kernel⟩
abbrev s_is_number_below : Stmt := top 12
theorem sc_is_number_below : FnScope ["limit", "thing"] ["limit", "thing"] (defScope s_is_number_below) := ⟨rfl, rfl, rfl, by decide +kernel, rfl, by decide +kernel, by decide +kernel⟩
abbrev s_is_tuple_of : Stmt := top 13
theorem sc_is_tuple_of : FnScope ["many", "thing"] ["many", "thing"] (defScope s_is_tuple_of) := ⟨rfl, rfl, rfl, by decide +kernel, rfl, by decide +kernel, by decide +kernel⟩
abbrev s_is_link_number : Stmt := top 17
theorem sc_is_link_number : FnScope ["thing"] ["thing"] (defScope s_is_link_number) := ⟨rfl, rfl, rfl, by decide +kernel, rfl, by decide +kernel, by decide +kernel⟩
abbrev s_Outgoing_init : Stmt := inClass (top 18) 0
theorem sc_Outgoing_init : FnScope ["self"] ["self"] (defScope s_Outgoing_init) := ⟨rfl, rfl, rfl, by decide +kernel, rfl, by decide +kernel, by decide +kernel⟩
abbrev s_Outgoing_put : Stmt := inClass (top 18) 1
theorem sc_Outgoing_put : FnScope ["self", "thing"] ["self", "thing"] (defScope s_Outgoing_put) := ⟨rfl, rfl, rfl, by decide +kernel, rfl, by decide +kernel, by decide +kernel⟩
abbrev s_Outgoing_known : Stmt := inClass (top 18) 2
theorem sc_Outgoing_known : FnScope ["self", "number", "newly"] ["self", "number"] (defScope s_Outgoing_known) := ⟨rfl, rfl, rfl, by decide +kernel, rfl, by decide +kernel, by decide +kernel⟩
abbrev s_Outgoing_waiting : Stmt := inClass (top 18) 3
theorem sc_Outgoing_waiting : FnScope ["self"] ["self"] (defScope s_Outgoing_waiting) := ⟨rfl, rfl, rfl, by decide +kernel, rfl, by decide +kernel, by decide +kernel⟩
abbrev s_Outgoing_many_put : Stmt := inClass (top 18) 4
theorem sc_Outgoing_many_put : FnScope ["self"] ["self"] (defScope s_Outgoing_many_put) := ⟨rfl, rfl, rfl, by decide +kernel, rfl, by decide +kernel, by decide +kernel⟩
abbrev s_Outgoing_state : Stmt := inClass (top 18) 5
theorem sc_Outgoing_state : FnScope ["self"] ["self"] (defScope s_Outgoing_state) := ⟨rfl, rfl, rfl, by decide +kernel, rfl, by decide +kernel, by decide +kernel⟩
abbrev s_Outgoing_copy : Stmt := inClass (top 18) 6
theorem sc_Outgoing_copy : FnScope ["self"] ["self"] (defScope s_Outgoing_copy) := ⟨rfl, rfl, rfl, by decide +kernel, rfl, by decide +kernel, by decide +kernel⟩
abbrev s_Incoming_init : Stmt := inClass (top 19) 0
theorem sc_Incoming_init : FnScope ["self"] ["self"] (defScope s_Incoming_init) := ⟨rfl, rfl, rfl, by decide +kernel, rfl, by decide +kernel, by decide +kernel⟩
abbrev s_Incoming_take : Stmt := inClass (top 19) 1
theorem sc_Incoming_take : FnScope ["self", "number", "thing", "newly"] ["self", "number", "thing"] (defScope s_Incoming_take) := ⟨rfl, rfl, rfl, by decide +kernel, rfl, by decide +kernel, by decide +kernel⟩
abbrev s_Incoming_taken : Stmt := inClass (top 19) 2
theorem sc_Incoming_taken : FnScope ["self"] ["self"] (defScope s_Incoming_taken) := ⟨rfl, rfl, rfl, by decide +kernel, rfl, by decide +kernel, by decide +kernel⟩
abbrev s_Incoming_held : Stmt := inClass (top 19) 3
theorem sc_Incoming_held : FnScope ["self"] ["self"] (defScope s_Incoming_held) := ⟨rfl, rfl, rfl, by decide +kernel, rfl, by decide +kernel, by decide +kernel⟩
abbrev s_Incoming_state : Stmt := inClass (top 19) 4
theorem sc_Incoming_state : FnScope ["self", "number"] ["self"] (defScope s_Incoming_state) := ⟨rfl, rfl, rfl, by decide +kernel, rfl, by decide +kernel, by decide +kernel⟩
abbrev s_Incoming_copy : Stmt := inClass (top 19) 5
theorem sc_Incoming_copy : FnScope ["self"] ["self"] (defScope s_Incoming_copy) := ⟨rfl, rfl, rfl, by decide +kernel, rfl, by decide +kernel, by decide +kernel⟩
abbrev s_is_byte : Stmt := top 38
theorem sc_is_byte : FnScope ["thing"] ["thing"] (defScope s_is_byte) := ⟨rfl, rfl, rfl, by decide +kernel, rfl, by decide +kernel, by decide +kernel⟩
abbrev s_is_row : Stmt := top 39
theorem sc_is_row : FnScope ["thing", "item"] ["thing"] (defScope s_is_row) := ⟨rfl, rfl, rfl, by decide +kernel, rfl, by decide +kernel, by decide +kernel⟩
abbrev s_check_row : Stmt := top 40
theorem sc_check_row : FnScope ["row"] ["row"] (defScope s_check_row) := ⟨rfl, rfl, rfl, by decide +kernel, rfl, by decide +kernel, by decide +kernel⟩
abbrev s_is_sign : Stmt := top 41
theorem sc_is_sign : FnScope ["number"] ["number"] (defScope s_is_sign) := ⟨rfl, rfl, rfl, by decide +kernel, rfl, by decide +kernel, by decide +kernel⟩
abbrev s_is_parcel : Stmt := top 42
theorem sc_is_parcel : FnScope ["thing"] ["thing"] (defScope s_is_parcel) := ⟨rfl, rfl, rfl, by decide +kernel, rfl, by decide +kernel, by decide +kernel⟩
abbrev s_is_parcel_within : Stmt := top 43
theorem sc_is_parcel_within : FnScope ["deep", "thing", "item", "sign"] ["deep", "thing"] (defScope s_is_parcel_within) := ⟨rfl, rfl, rfl, by decide +kernel, rfl, by decide +kernel, by decide +kernel⟩
abbrev s_row_of : Stmt := top 44
theorem sc_row_of : FnScope ["parcel"] ["parcel"] (defScope s_row_of) := ⟨rfl, rfl, rfl, by decide +kernel, rfl, by decide +kernel, by decide +kernel⟩
abbrev s_told : Stmt := top 45
theorem sc_told : FnScope ["parcel", "told", "item", "sign"] ["parcel"] (defScope s_told) := ⟨rfl, rfl, rfl, by decide +kernel, rfl, by decide +kernel, by decide +kernel⟩
abbrev s_whole : Stmt := top 46
theorem sc_whole : FnScope ["number", "left", "told"] ["number"] (defScope s_whole) := ⟨rfl, rfl, rfl, by decide +kernel, rfl, by decide +kernel, by decide +kernel⟩
abbrev s_parcel_of : Stmt := top 47
theorem sc_parcel_of : FnScope ["row", "parcel", "behind"] ["row"] (defScope s_parcel_of) := ⟨rfl, rfl, rfl, by decide +kernel, rfl, by decide +kernel, by decide +kernel⟩
abbrev s_check_there : Stmt := top 48
theorem sc_check_there : FnScope ["row", "place"] ["row", "place"] (defScope s_check_there) := ⟨rfl, rfl, rfl, by decide +kernel, rfl, by decide +kernel, by decide +kernel⟩
abbrev s_parcel_at : Stmt := top 49
theorem sc_parcel_at : FnScope ["row", "place", "deep", "sort", "number", "behind"] ["row", "place", "deep"] (defScope s_parcel_at) := ⟨rfl, rfl, rfl, by decide +kernel, rfl, by decide +kernel, by decide +kernel⟩
abbrev s_whole_at : Stmt := top 50
theorem sc_whole_at : FnScope ["row", "place", "last", "number", "byte"] ["row", "place"] (defScope s_whole_at) := ⟨rfl, rfl, rfl, by decide +kernel, rfl, by decide +kernel, by decide +kernel⟩
abbrev s_string_at : Stmt := top 51
theorem sc_string_at : FnScope ["row", "place", "many", "signs", "at"] ["row", "place", "many"] (defScope s_string_at) := ⟨rfl, rfl, rfl, by decide +kernel, rfl, by decide +kernel, by decide +kernel⟩
abbrev s_tuple_at : Stmt := top 52
theorem sc_tuple_at : FnScope ["row", "place", "many", "deep", "items", "behind", "item"] ["row", "place", "many", "deep"] (defScope s_tuple_at) := ⟨rfl, rfl, rfl, by decide +kernel, rfl, by decide +kernel, by decide +kernel⟩
abbrev s_mark : Stmt := top 53
theorem sc_mark : FnScope ["row"] ["row"] (defScope s_mark) := ⟨rfl, rfl, rfl, by decide +kernel, rfl, by decide +kernel, by decide +kernel⟩
abbrev s_mark_of : Stmt := top 54
theorem sc_mark_of : FnScope ["row", "found", "byte"] ["row"] (defScope s_mark_of) := ⟨rfl, rfl, rfl, by decide +kernel, rfl, by decide +kernel, by decide +kernel⟩
abbrev s_seal_ : Stmt := top 55
theorem sc_seal_ : FnScope ["row", "left", "seal", "_"] ["row"] (defScope s_seal_) := ⟨rfl, rfl, rfl, by decide +kernel, rfl, by decide +kernel, by decide +kernel⟩
abbrev s_sealed : Stmt := top 56
theorem sc_sealed : FnScope ["parcel", "row"] ["parcel"] (defScope s_sealed) := ⟨rfl, rfl, rfl, by decide +kernel, rfl, by decide +kernel, by decide +kernel⟩
abbrev s_unsealed : Stmt := top 57
theorem sc_unsealed : FnScope ["row"] ["row"] (defScope s_unsealed) := ⟨rfl, rfl, rfl, by decide +kernel, rfl, by decide +kernel, by decide +kernel⟩
abbrev s_Disk_init : Stmt := inClass (top 59) 0
theorem sc_Disk_init : FnScope ["self"] ["self"] (defScope s_Disk_init) := ⟨rfl, rfl, rfl, by decide +kernel, rfl, by decide +kernel, by decide +kernel⟩
abbrev s_Disk_write : Stmt := inClass (top 59) 1
theorem sc_Disk_write : FnScope ["self", "row"] ["self", "row"] (defScope s_Disk_write) := ⟨rfl, rfl, rfl, by decide +kernel, rfl, by decide +kernel, by decide +kernel⟩
abbrev s_Disk_sync : Stmt := inClass (top 59) 2
theorem sc_Disk_sync : FnScope ["self", "newly"] ["self"] (defScope s_Disk_sync) := ⟨rfl, rfl, rfl, by decide +kernel, rfl, by decide +kernel, by decide +kernel⟩
abbrev s_Disk_blocks : Stmt := inClass (top 59) 3
theorem sc_Disk_blocks : FnScope ["self"] ["self"] (defScope s_Disk_blocks) := ⟨rfl, rfl, rfl, by decide +kernel, rfl, by decide +kernel, by decide +kernel⟩
abbrev s_Disk_synced : Stmt := inClass (top 59) 4
theorem sc_Disk_synced : FnScope ["self"] ["self"] (defScope s_Disk_synced) := ⟨rfl, rfl, rfl, by decide +kernel, rfl, by decide +kernel, by decide +kernel⟩
abbrev s_Disk_cut : Stmt := inClass (top 59) 5
theorem sc_Disk_cut : FnScope ["self", "kept", "waiting", "row", "many"] ["self", "kept"] (defScope s_Disk_cut) := ⟨rfl, rfl, rfl, by decide +kernel, rfl, by decide +kernel, by decide +kernel⟩
abbrev s_Disk_drop : Stmt := inClass (top 59) 6
theorem sc_Disk_drop : FnScope ["self", "number"] ["self", "number"] (defScope s_Disk_drop) := ⟨rfl, rfl, rfl, by decide +kernel, rfl, by decide +kernel, by decide +kernel⟩
abbrev s_Disk_copy : Stmt := inClass (top 59) 7
theorem sc_Disk_copy : FnScope ["self"] ["self"] (defScope s_Disk_copy) := ⟨rfl, rfl, rfl, by decide +kernel, rfl, by decide +kernel, by decide +kernel⟩
abbrev s_is_cut : Stmt := top 60
theorem sc_is_cut : FnScope ["waiting", "thing", "row", "many"] ["waiting", "thing"] (defScope s_is_cut) := ⟨rfl, rfl, rfl, by decide +kernel, rfl, by decide +kernel, by decide +kernel⟩
abbrev s_kept_parcels : Stmt := top 61
theorem sc_kept_parcels : FnScope ["blocks", "block", "parcels", "told"] ["blocks"] (defScope s_kept_parcels) := ⟨rfl, rfl, rfl, by decide +kernel, rfl, by decide +kernel, by decide +kernel⟩
abbrev s_law_hand : Stmt := top 63
theorem sc_law_hand : FnScope ["script"] ["script"] (defScope s_law_hand) := ⟨rfl, rfl, rfl, by decide +kernel, rfl, by decide +kernel, by decide +kernel⟩
abbrev s_law_take : Stmt := top 64
theorem sc_law_take : FnScope ["hand", "many", "cell", "found", "number"] ["hand", "many"] (defScope s_law_take) := ⟨rfl, rfl, rfl, by decide +kernel, rfl, by decide +kernel, by decide +kernel⟩
abbrev s_law_pick : Stmt := top 65
theorem sc_law_pick : FnScope ["hand", "things"] ["hand", "things"] (defScope s_law_pick) := ⟨rfl, rfl, rfl, by decide +kernel, rfl, by decide +kernel, by decide +kernel⟩
abbrev s_law_is_integer : Stmt := top 66
theorem sc_law_is_integer : FnScope ["thing"] ["thing"] (defScope s_law_is_integer) := ⟨rfl, rfl, rfl, by decide +kernel, rfl, by decide +kernel, by decide +kernel⟩
abbrev s_law_is_within : Stmt := top 67
theorem sc_law_is_within : FnScope ["thing", "least", "most"] ["thing", "least", "most"] (defScope s_law_is_within) := ⟨rfl, rfl, rfl, by decide +kernel, rfl, by decide +kernel, by decide +kernel⟩
abbrev s_law_same : Stmt := top 68
theorem sc_law_same : FnScope ["actual", "due", "one", "other"] ["actual", "due"] (defScope s_law_same) := ⟨rfl, rfl, rfl, by decide +kernel, rfl, by decide +kernel, by decide +kernel⟩
abbrev s_law_odd : Stmt := top 69
theorem sc_law_odd : FnScope ["hand", "way"] ["hand"] (defScope s_law_odd) := ⟨rfl, rfl, rfl, by decide +kernel, rfl, by decide +kernel, by decide +kernel⟩
abbrev s_law_known : Stmt := top 70
theorem sc_law_known : FnScope ["out", "number"] ["out", "number"] (defScope s_law_known) := ⟨rfl, rfl, rfl, by decide +kernel, rfl, by decide +kernel, by decide +kernel⟩
abbrev s_law_taken : Stmt := top 71
theorem sc_law_taken : FnScope ["end", "number"] ["end", "number"] (defScope s_law_taken) := ⟨rfl, rfl, rfl, by decide +kernel, rfl, by decide +kernel, by decide +kernel⟩
abbrev s_law_first : Stmt := top 72
theorem sc_law_first : FnScope ["script", "hand", "out", "end", "many", "k", "gone", "taken", "some", "number", "state", "told"] ["script"] (defScope s_law_first) := ⟨rfl, rfl, rfl, by decide +kernel, rfl, by decide +kernel, by decide +kernel⟩
abbrev s_law_pool : Stmt := top 73
theorem sc_law_pool : FnScope ["script", "seed", "cell"] ["script"] (defScope s_law_pool) := ⟨rfl, rfl, rfl, by decide +kernel, rfl, by decide +kernel, by decide +kernel⟩
abbrev s_law_draw : Stmt := top 74
theorem sc_law_draw : FnScope ["pool", "many", "cells", "digit", "mixed"] ["pool", "many"] (defScope s_law_draw) := ⟨rfl, rfl, rfl, by decide +kernel, rfl, by decide +kernel, by decide +kernel⟩
abbrev s_law_deep : Stmt := top 75
theorem sc_law_deep : FnScope ["thing", "turn"] [] (defScope s_law_deep) := ⟨rfl, rfl, rfl, by decide +kernel, rfl, by decide +kernel, by decide +kernel⟩
abbrev s_law_nested : Stmt := top 76
theorem sc_law_nested : FnScope ["many", "inner", "found", "turn"] ["many", "inner"] (defScope s_law_nested) := ⟨rfl, rfl, rfl, by decide +kernel, rfl, by decide +kernel, by decide +kernel⟩
abbrev s_law_is_row : Stmt := top 77
theorem sc_law_is_row : FnScope ["thing", "one"] ["thing"] (defScope s_law_is_row) := ⟨rfl, rfl, rfl, by decide +kernel, rfl, by decide +kernel, by decide +kernel⟩
abbrev s_law_call : Stmt := top 78
theorem sc_law_call : FnScope ["which", "disk", "thing"] ["which", "disk", "thing"] (defScope s_law_call) := ⟨rfl, rfl, rfl, by decide +kernel, rfl, by decide +kernel, by decide +kernel⟩
abbrev s_law_name : Stmt := top 79
theorem sc_law_name : FnScope ["error", "flags"] ["error"] (defScope s_law_name) := ⟨rfl, rfl, rfl, by decide +kernel, rfl, by decide +kernel, by decide +kernel⟩
abbrev s_law_word : Stmt := top 80
theorem sc_law_word : FnScope ["which", "disk", "thing", "word", "e"] ["which", "disk", "thing"] (defScope s_law_word) := ⟨rfl, rfl, rfl, by decide +kernel, rfl, by decide +kernel, by decide +kernel⟩
abbrev s_law_some : Stmt := top 81
theorem sc_law_some : FnScope ["pool", "some"] ["pool"] (defScope s_law_some) := ⟨rfl, rfl, rfl, by decide +kernel, rfl, by decide +kernel, by decide +kernel⟩
abbrev s_law_due : Stmt := top 82
theorem sc_law_due : FnScope ["which", "blocks", "synced", "thing", "sizes", "right", "row", "many", "size"] ["which", "blocks", "synced", "thing"] (defScope s_law_due) := ⟨rfl, rfl, rfl, by decide +kernel, rfl, by decide +kernel, by decide +kernel⟩
abbrev s_law_second : Stmt := top 83
theorem sc_law_second : FnScope ["script", "pool", "turn", "disk", "block", "thing", "which", "blocks", "synced", "none"] ["script"] (defScope s_law_second) := ⟨rfl, rfl, rfl, by decide +kernel, rfl, by decide +kernel, by decide +kernel⟩
abbrev s_law : Stmt := top 84
theorem sc_law : FnScope ["script"] ["script"] (defScope s_law) := ⟨rfl, rfl, rfl, by decide +kernel, rfl, by decide +kernel, by decide +kernel⟩
structure Bk (K : PySem.W.Frag) (mg : Str → Option Value) (T : Tx K mg) where
  wall : Df K mg "_wall" s_wall ["k"]
  NoNumber_init : Dm K T.c_NoNumber "__init__" "NoNumber.__init__" s_NoNumber_init ["self"]
  NoParcel_init : Dm K T.c_NoParcel "__init__" "NoParcel.__init__" s_NoParcel_init ["self"]
  NoRow_init : Dm K T.c_NoRow "__init__" "NoRow.__init__" s_NoRow_init ["self"]
  BadRow_init : Dm K T.c_BadRow "__init__" "BadRow.__init__" s_BadRow_init ["self", "place"]
  NoCut_init : Dm K T.c_NoCut "__init__" "NoCut.__init__" s_NoCut_init ["self"]
  NoBlocks_init : Dm K T.c_NoBlocks "__init__" "NoBlocks.__init__" s_NoBlocks_init ["self"]
  is_int : Df K mg "is_int" s_is_int ["thing"]
  is_number : Df K mg "is_number" s_is_number ["thing"]
  is_number_below : Df K mg "is_number_below" s_is_number_below ["limit", "thing"]
  is_tuple_of : Df K mg "is_tuple_of" s_is_tuple_of ["many", "thing"]
  is_link_number : Df K mg "is_link_number" s_is_link_number ["thing"]
  Outgoing_init : Dm K T.c_Outgoing "__init__" "Outgoing.__init__" s_Outgoing_init ["self"]
  Outgoing_put : Dm K T.c_Outgoing "put" "Outgoing.put" s_Outgoing_put ["self", "thing"]
  Outgoing_known : Dm K T.c_Outgoing "known" "Outgoing.known" s_Outgoing_known ["self", "number"]
  Outgoing_waiting : Dm K T.c_Outgoing "waiting" "Outgoing.waiting" s_Outgoing_waiting ["self"]
  Outgoing_many_put : Dm K T.c_Outgoing "many_put" "Outgoing.many_put" s_Outgoing_many_put ["self"]
  Outgoing_state : Dm K T.c_Outgoing "state" "Outgoing.state" s_Outgoing_state ["self"]
  Outgoing_copy : Dm K T.c_Outgoing "copy" "Outgoing.copy" s_Outgoing_copy ["self"]
  Incoming_init : Dm K T.c_Incoming "__init__" "Incoming.__init__" s_Incoming_init ["self"]
  Incoming_take : Dm K T.c_Incoming "take" "Incoming.take" s_Incoming_take ["self", "number", "thing"]
  Incoming_taken : Dm K T.c_Incoming "taken" "Incoming.taken" s_Incoming_taken ["self"]
  Incoming_held : Dm K T.c_Incoming "held" "Incoming.held" s_Incoming_held ["self"]
  Incoming_state : Dm K T.c_Incoming "state" "Incoming.state" s_Incoming_state ["self"]
  Incoming_copy : Dm K T.c_Incoming "copy" "Incoming.copy" s_Incoming_copy ["self"]
  is_byte : Df K mg "is_byte" s_is_byte ["thing"]
  is_row : Df K mg "is_row" s_is_row ["thing"]
  check_row : Df K mg "check_row" s_check_row ["row"]
  is_sign : Df K mg "_is_sign" s_is_sign ["number"]
  is_parcel : Df K mg "is_parcel" s_is_parcel ["thing"]
  is_parcel_within : Df K mg "_is_parcel_within" s_is_parcel_within ["deep", "thing"]
  row_of : Df K mg "row_of" s_row_of ["parcel"]
  told : Df K mg "_told" s_told ["parcel"]
  whole : Df K mg "_whole" s_whole ["number"]
  parcel_of : Df K mg "parcel_of" s_parcel_of ["row"]
  check_there : Df K mg "_check_there" s_check_there ["row", "place"]
  parcel_at : Df K mg "_parcel_at" s_parcel_at ["row", "place", "deep"]
  whole_at : Df K mg "_whole_at" s_whole_at ["row", "place"]
  string_at : Df K mg "_string_at" s_string_at ["row", "place", "many"]
  tuple_at : Df K mg "_tuple_at" s_tuple_at ["row", "place", "many", "deep"]
  mark : Df K mg "mark" s_mark ["row"]
  mark_of : Df K mg "_mark_of" s_mark_of ["row"]
  seal_ : Df K mg "_seal" s_seal_ ["row"]
  sealed : Df K mg "sealed" s_sealed ["parcel"]
  unsealed : Df K mg "unsealed" s_unsealed ["row"]
  Disk_init : Dm K T.c_Disk "__init__" "Disk.__init__" s_Disk_init ["self"]
  Disk_write : Dm K T.c_Disk "write" "Disk.write" s_Disk_write ["self", "row"]
  Disk_sync : Dm K T.c_Disk "sync" "Disk.sync" s_Disk_sync ["self"]
  Disk_blocks : Dm K T.c_Disk "blocks" "Disk.blocks" s_Disk_blocks ["self"]
  Disk_synced : Dm K T.c_Disk "synced" "Disk.synced" s_Disk_synced ["self"]
  Disk_cut : Dm K T.c_Disk "cut" "Disk.cut" s_Disk_cut ["self", "kept"]
  Disk_drop : Dm K T.c_Disk "drop" "Disk.drop" s_Disk_drop ["self", "number"]
  Disk_copy : Dm K T.c_Disk "copy" "Disk.copy" s_Disk_copy ["self"]
  is_cut : Df K mg "_is_cut" s_is_cut ["waiting", "thing"]
  kept_parcels : Df K mg "kept_parcels" s_kept_parcels ["blocks"]
  law_hand : Df K mg "_law_hand" s_law_hand ["script"]
  law_take : Df K mg "_law_take" s_law_take ["hand", "many"]
  law_pick : Df K mg "_law_pick" s_law_pick ["hand", "things"]
  law_is_integer : Df K mg "_law_is_integer" s_law_is_integer ["thing"]
  law_is_within : Df K mg "_law_is_within" s_law_is_within ["thing", "least", "most"]
  law_same : Df K mg "_law_same" s_law_same ["actual", "due"]
  law_odd : Df K mg "_law_odd" s_law_odd ["hand"]
  law_known : Df K mg "_law_known" s_law_known ["out", "number"]
  law_taken : Df K mg "_law_taken" s_law_taken ["end", "number"]
  law_first : Df K mg "_law_first" s_law_first ["script"]
  law_pool : Df K mg "_law_pool" s_law_pool ["script"]
  law_draw : Df K mg "_law_draw" s_law_draw ["pool", "many"]
  law_deep : Df K mg "_law_deep" s_law_deep []
  law_nested : Df K mg "_law_nested" s_law_nested ["many", "inner"]
  law_is_row : Df K mg "_law_is_row" s_law_is_row ["thing"]
  law_call : Df K mg "_law_call" s_law_call ["which", "disk", "thing"]
  law_name : Df K mg "_law_name" s_law_name ["error"]
  law_word : Df K mg "_law_word" s_law_word ["which", "disk", "thing"]
  law_some : Df K mg "_law_some" s_law_some ["pool"]
  law_due : Df K mg "_law_due" s_law_due ["which", "blocks", "synced", "thing"]
  law_second : Df K mg "_law_second" s_law_second ["script"]
  law : Df K mg "law" s_law ["script"]
theorem mk_of_Incoming {K : PySem.W.Frag} {mg : Str → Option Value} (T : Tx K mg) {q : Str} {st : Stmt} {ps : List Str} (D : Dm K T.c_Incoming "__init__" q st ps) : Mk K T.c_Incoming D.f := ⟨T.mk_Incoming.1, D.a, D.i, T.mk_Incoming.2⟩
theorem mk_of_Outgoing {K : PySem.W.Frag} {mg : Str → Option Value} (T : Tx K mg) {q : Str} {st : Stmt} {ps : List Str} (D : Dm K T.c_Outgoing "__init__" q st ps) : Mk K T.c_Outgoing D.f := ⟨T.mk_Outgoing.1, D.a, D.i, T.mk_Outgoing.2⟩
theorem mk_of_Disk {K : PySem.W.Frag} {mg : Str → Option Value} (T : Tx K mg) {q : Str} {st : Stmt} {ps : List Str} (D : Dm K T.c_Disk "__init__" q st ps) : Mk K T.c_Disk D.f := ⟨T.mk_Disk.1, D.a, D.i, T.mk_Disk.2⟩
end Mw

/-! R2m -/
/-! Rows: the mathematics. -/
namespace Mw
open PySem L2
def wh (n : Nat) : List Int := if n < 128 then [(n : Int)] else ((n % 128 + 128 : Nat) : Int) :: wh (n / 128)
termination_by n
decreasing_by omega
theorem wh_lt {n : Nat} (h : n < 128) : wh n = [(n : Int)] := by
  rw [wh, if_pos h]
theorem wh_ge {n : Nat} (h : ¬ n < 128) : wh n = ((n % 128 + 128 : Nat) : Int) :: wh (n / 128) := by
  rw [wh, if_neg h]
theorem wh_pos (n : Nat) : 1 ≤ (wh n).length := by
  by_cases h : n < 128
  · rw [wh_lt h]
    exact Nat.le_refl _
  · rw [wh_ge h, List.length_cons]
    omega
def sgn (s : Str) : List Int := s.cps.toList.map fun c : Nat => (c : Int)
mutual
def byD : PyData → List Int
  | .none => [0]
  | .bool b => [if b then 2 else 1]
  | .int i => if 0 ≤ i then 3 :: wh i.toNat else 4 :: wh (-1 - i).toNat
  | .str s => 5 :: (wh s.length ++ sgn s)
  | .tuple ds => 6 :: (wh ds.length ++ byAll ds)
  | _ => []
def byAll : List PyData → List Int
  | [] => []
  | d :: ds => byD d ++ byAll ds
end
theorem byAll_app : ∀ a b : List PyData, byAll (a ++ b) = byAll a ++ byAll b
  | [], b => rfl
  | d :: a, b => by
    show byD d ++ byAll (a ++ b) = (byD d ++ byAll a) ++ byAll b
    rw [byAll_app a b, List.append_assoc]
theorem byAll_one (d : PyData) : byAll [d] = byD d := by
  show byD d ++ [] = byD d
  rw [List.append_nil]
theorem byAll_get : ∀ {ds : List PyData} {i : Nat} {d : PyData}, ds[i]? = some d → (byD d).length ≤ (byAll ds).length
  | [], i, d, e => by simp at e
  | c :: ds, 0, d, e => by
    cases e
    show _ ≤ (byD c ++ byAll ds).length
    rw [List.length_append]
    omega
  | c :: ds, i + 1, d, e => by
    have := byAll_get (ds := ds) (i := i) (d := d) (by simpa using e)
    show _ ≤ (byD c ++ byAll ds).length
    rw [List.length_append]
    omega
theorem byAll_take : ∀ (ds : List PyData) (i : Nat), (byAll (ds.take i)).length ≤ (byAll ds).length
  | [], i => by simp
  | c :: ds, 0 => by simp [byAll]
  | c :: ds, i + 1 => by
    have := byAll_take ds i
    show (byD c ++ byAll (ds.take i)).length ≤ (byD c ++ byAll ds).length
    rw [List.length_append, List.length_append]
    omega
end Mw

/-! R2 -/
namespace Mw
open PySem L2
/-- a judge of one thing that changes nothing -/
def spJ (CP : Addr → Prop) (g : PyData → Bool) : Sp := fun vs H Q _ => ∃ M d x, vs = [x] ∧ Dt CP M H d x ∧ Q (.bl (g d)) H
/-- a judge of an integer and a thing -/
def spJ2 (CP : Addr → Prop) (g : Int → PyData → Bool) : Sp := fun vs H Q _ => ∃ M i d x, vs = [.int i, x] ∧ Dt CP M H d x ∧ Q (.bl (g i d)) H
/-- an own error with a place is raised: it stands at a new place, all else as it was -/
def Raised (C : Addr) (part : V) (H : Hp) (E : XK) : Prop := ∀ e H', H e = none → Same H H' → H' e = some (.xd [(("place" : Str), part)]) → E (.ref C) (some e) H'
theorem Raised.of {C : Addr} {part : V} {H H1 : Hp} {E : XK} (h : Raised C part H E) (s : Same H H1) : Raised C part H1 E := fun e H' n s' r => h e H' (s.free n) (s.trans s') r
def spBadInit (C : Addr) : Sp := fun vs H Q _ => ∃ a v, vs = [.ref a, v] ∧ H a = some (exo a C none) ∧ ∀ dx, H dx = none → dx ≠ a → Q .non (upd (upd H dx (exd dx [(("place" : Str), v)])) a (exo a C (some dx)))
def spPass : Sp := fun vs H Q _ => ∃ a, vs = [.ref a] ∧ Q .non H
theorem bad_made {C : Addr} {H : Hp} {part : V} {Q : XK} (h : Raised C part H Q) : [part].length ≤ 1000 ∧ ∀ a, H a = none → spBadInit C (.ref a :: ([part] ++ [])) (upd H a (exo a C none))
    (fun v H2 => v = .non ∧ ∃ (d : Addr) (fs : List (Str × V)), H2 a = some (exo a C (some d)) ∧ H2 d = some (exd d fs) ∧ H d = none ∧ Q (.ref C) (some d) (upd (del H2 a) d (.xd fs))) (fun _ _ _ => False) := by
  refine ⟨Nat.le_of_ble_eq_true rfl, fun a ha => ⟨a, part, rfl, upd_same, fun dx hdx ne => ⟨rfl, dx, [(("place" : Str), part)], upd_same, ?_, ?_, ?_⟩⟩⟩
  · rw [upd_ne ne, upd_same]
  · rw [upd_ne ne] at hdx
    exact hdx
  · have hd0 : H dx = none := by
      rw [upd_ne ne] at hdx
      exact hdx
    refine h dx _ hd0 (fun b o hb => ?_) upd_same
    have n1 : b ≠ dx := ne_of_none hb hd0
    have n2 : b ≠ a := ne_of_none hb ha
    rw [upd_ne n1, del_ne n2, upd_ne n2, upd_ne n1, upd_ne n2]
    exact hb
def isNum : PyData → Bool | .int i => decide (0 ≤ i) | _ => false
def isNb (l : Int) : PyData → Bool | .int i => decide (0 ≤ i) && decide (i < l) | _ => false
def isByte : PyData → Bool := isNb 256
/-- the bytes of a number, in a new list -/
def spWhole : Sp := fun vs H Q _ => ∃ n : Nat, vs = [.int (n : Int)] ∧ (wh n).length ≤ 900000 ∧ ∀ p H', Same H H' → H p = none → H' p = some (.lst ((wh n).map V.int)) → Q (.ref p) H'
section
variable {P : Program} {w : World} {K : PySem.W.Frag} {mg : Str → Option Value} {base : Heap}
local macro_rules | `(tactic| walk_at "rd") => `(tactic| (repeat (first
  | ((with_reducible refine' rd_var ?h0 ?_); (case h0 => rfl))
  | with_reducible refine rd_c ?_
  | with_reducible refine rd_op ?_
  | with_reducible refine rd_nil ?_
  | with_reducible refine rd_cons ?_
  | with_reducible refine rd_tup ?_
  | with_reducible refine rd_lst ?_
  | with_reducible refine rd_ifs ?_
  | with_reducible refine rd_seq ?_
  | with_reducible refine rd_next ?_
  | with_reducible refine rd_ret ?_
  | with_reducible refine rd_asg ?_
  | ((with_reducible refine' rd_gset ?hs ?_); (case hs => ((simp only [L2.start, List.map_cons, List.map_nil, List.length_cons, List.length_nil, List.cons_append, List.nil_append, List.set_cons_zero, List.set_cons_succ, Nat.reduceAdd, Nat.reduceSub, Nat.zero_add, List.reduceReplicate]); rfl)))
  | with_reducible refine rd_drop ?_
  | with_reducible refine rd_test ?_
  | with_reducible refine rd_B ?_
  | with_reducible refine rd_bl ?_
  | with_reducible refine rd_blP ?_
  | with_reducible refine rd_andV ?_
  | with_reducible refine rd_orV ?_
  | with_reducible refine rd_notV ?_
  | with_reducible refine rd_and ?_
  | with_reducible refine rd_or ?_
  | with_reducible refine rd_not ?_
  | with_reducible refine rd_chain ?_
  | with_reducible refine rd_dput ?_
  | with_reducible refine rd_dget ?_
  | with_reducible refine rd_cb ?_
  | with_reducible refine rd_call ?_
  | with_reducible refine rd_un ?_
  | with_reducible refine rd_sl ?_
  | with_reducible refine rd_nopart ?_
  | with_reducible refine rd_part ?_
  | with_reducible refine rd_intP ?_
  | with_reducible refine rd_rU ?_
  | with_reducible refine rd_fld ?_
  | with_reducible refine rd_eqI ?_
  | with_reducible refine rd_neI ?_
  | with_reducible refine rd_mko ?_
  | with_reducible refine rd_bm ?_
  | with_reducible refine rd_gsub ?_
  | with_reducible refine rd_i0 ?_)))
theorem ok_is_int (T : Tx K mg) (B : Bk K mg T) : FnOk P w K mg base CX0 1 B.is_int.f B.is_int.fd ["thing"] (spJ T.CP isInt) := by
  refine B.is_int.F.ok sc_is_int (fun vs H Q E h => ?_) (fun cdv A outer s H vs Q E hr h => ?_)
  · obtain ⟨p, d, x, rfl, _⟩ := h
    rfl
  · obtain ⟨p, d, x, rfl, hd, q⟩ := h
    refine ⟨_, (pss_one (ps_ret (pe_and (pe_callB call_isi (by rfl) T.b_isinstance (by decide +kernel) (pa_cons (pv 0) (pa_cons (pe_bltn (v := .ty "int") (by rfl) T.b_int (by decide +kernel) rfl) pa_nil))) (pe_one (pe_not (pe_callB call_isi (by rfl) T.b_isinstance (by decide +kernel) (pa_cons (pv 0) (pa_cons (pe_bltn (v := .ty "bool") (by rfl) T.b_bool (by decide +kernel) rfl) pa_nil)))))))), ?_⟩
    walk_at "rd"
    refine dt_isI T.W hd ?_
    walk_at "rd"
    refine rd_ite (fun h1 => ?_) (fun h0 => ?_)
    · walk_at "rd"
      refine dt_isB T.W hd ?_
      walk_at "rd"
      have e : isInt d = !isB d := by cases d <;> simp_all [isI, isB, isInt]
      rw [e] at q
      exact q
    · have e : isInt d = false := by cases d <;> simp_all [isI, isB, isInt]
      rw [e] at q
      exact q
theorem ok_is_number (T : Tx K mg) (B : Bk K mg T) : FnOk P w K mg base CX0 2 B.is_number.f B.is_number.fd ["thing"] (spJ T.CP isNum) := by
  have G_is_int := ok_is_int (P := P) (w := w) (base := base) T B
  refine B.is_number.F.ok sc_is_number (fun vs H Q E h => ?_) (fun cdv A outer s H vs Q E hr h => ?_)
  · obtain ⟨p, d, x, rfl, _⟩ := h
    rfl
  · obtain ⟨p, d, x, rfl, hd, q⟩ := h
    refine ⟨_, (pss_one (ps_ret (pe_and (pe_call G_is_int (hr.mono (by decide)) rfl B.is_int.m B.is_int.F.kp B.is_int.b .nil pass0 (pa_cons (pv 0) pa_nil)) (pe_one (pe_cmpR op_ge (pv 0) pe_int (nomark _)))))), ?_⟩
    walk_at "rd"
    refine ⟨p, d, x, rfl, hd, ?_⟩
    walk_at "rd"
    refine rd_ite (fun h1 => ?_) (fun h0 => ?_)
    · cases d with
      | int i =>
        cases dt_int' hd
        walk_at "rd"
        exact q
      | _ => cases h1
    · have e : isNum d = false := by cases d <;> simp_all [isNum, isInt]
      rw [e] at q
      exact q
theorem ok_is_number_below (T : Tx K mg) (B : Bk K mg T) : FnOk P w K mg base CX0 3 B.is_number_below.f B.is_number_below.fd ["limit", "thing"] (spJ2 T.CP isNb) := by
  have G_is_number := ok_is_number (P := P) (w := w) (base := base) T B
  refine B.is_number_below.F.ok sc_is_number_below (fun vs H Q E h => ?_) (fun cdv A outer s H vs Q E hr h => ?_)
  · obtain ⟨p, i, d, x, rfl, _⟩ := h
    rfl
  · obtain ⟨p, i, d, x, rfl, hd, q⟩ := h
    refine ⟨_, (pss_one (ps_ret (pe_and (pe_call G_is_number (hr.mono (by decide)) rfl B.is_number.m B.is_number.F.kp B.is_number.b .nil pass0 (pa_cons (pv 1) pa_nil)) (pe_one (pe_cmpR op_lt (pv 1) (pv 0) (nomark _)))))), ?_⟩
    walk_at "rd"
    refine ⟨p, d, x, rfl, hd, ?_⟩
    walk_at "rd"
    refine rd_ite (fun h1 => ?_) (fun h0 => ?_)
    · cases d with
      | int j =>
        cases dt_int' hd
        walk_at "rd"
        have e : isNb i (.int j) = decide (j < i) := by simp_all [isNb, isNum]
        rw [e] at q
        exact q
      | _ => cases h1
    · have e : isNb i d = false := by
        cases d <;> simp_all [isNum, isNb]
        omega
      rw [e] at q
      exact q
theorem ok_is_byte (T : Tx K mg) (B : Bk K mg T) : FnOk P w K mg base CX0 4 B.is_byte.f B.is_byte.fd ["thing"] (spJ T.CP isByte) := by
  have G_is_number_below := ok_is_number_below (P := P) (w := w) (base := base) T B
  refine B.is_byte.F.ok sc_is_byte (fun vs H Q E h => ?_) (fun cdv A outer s H vs Q E hr h => ?_)
  · obtain ⟨p, d, x, rfl, _⟩ := h
    rfl
  · obtain ⟨p, d, x, rfl, hd, q⟩ := h
    refine ⟨_, (pss_one (ps_ret (pe_call G_is_number_below (hr.mono (by decide)) rfl B.is_number_below.m B.is_number_below.F.kp B.is_number_below.b .nil pass0 (pa_cons (pe_glob (v := .int 256) (by rfl) T.g_BYTE_LIMIT ⟨_, rfl⟩) (pa_cons (pv 0) pa_nil))))), ?_⟩
    walk_at "rd"
    exact ⟨p, _, d, x, rfl, hd, q⟩
theorem ok_bad_init (T : Tx K mg) (B : Bk K mg T) : FnOk P w K mg base CX0 1 B.BadRow_init.f B.BadRow_init.fd ["self", "place"] (spBadInit T.c_BadRow) := by
  refine B.BadRow_init.F.ok sc_BadRow_init (fun vs H Q E h => ?_) (fun cdv A outer s H vs Q E hr h => ?_)
  · obtain ⟨a, v, rfl, _⟩ := h
    rfl
  · obtain ⟨a, v, rfl, ha, q⟩ := h
    refine ⟨_, (pss_one (ps_ost (pv 0) (pv 1))), ?_⟩
    exact ⟨v, rfl, .ref a, rfl, a, T.c_BadRow, rfl, T.x_BadRow, T.na_place, .inl ⟨ha, q⟩⟩
theorem ok_row_init (T : Tx K mg) (B : Bk K mg T) : FnOk P w K mg base CX0 1 B.NoRow_init.f B.NoRow_init.fd ["self"] spPass := by
  refine B.NoRow_init.F.ok sc_NoRow_init (fun vs H Q E h => ?_) (fun cdv A outer s H vs Q E hr h => ?_)
  · obtain ⟨a, rfl, _⟩ := h
    rfl
  · obtain ⟨a, rfl, q⟩ := h
    exact ⟨_, (pss_one ps_pass), q⟩
theorem ok_parcel_init (T : Tx K mg) (B : Bk K mg T) : FnOk P w K mg base CX0 1 B.NoParcel_init.f B.NoParcel_init.fd ["self"] spPass := by
  refine B.NoParcel_init.F.ok sc_NoParcel_init (fun vs H Q E h => ?_) (fun cdv A outer s H vs Q E hr h => ?_)
  · obtain ⟨a, rfl, _⟩ := h
    rfl
  · obtain ⟨a, rfl, q⟩ := h
    exact ⟨_, (pss_one ps_pass), q⟩
theorem ok_whole (T : Tx K mg) (B : Bk K mg T) : FnOk P w K mg base CX0 1 B.whole.f B.whole.fd ["number"] spWhole := by
  refine B.whole.F.ok sc_whole (fun vs H Q E h => ?_) (fun cdv A outer s H vs Q E hr h => ?_)
  · obtain ⟨n, rfl, _⟩ := h
    rfl
  · obtain ⟨n, rfl, hn, q⟩ := h
    refine ⟨_, (pss_cons (ps_set (i := 1) sc_whole.nd rfl (Or.inl rfl) (pv 0))
      (pss_cons (ps_set (i := 2) sc_whole.nd rfl (Or.inl rfl) (pe_lst pa_nil))
      (pss_cons (ps_while PassesOwn.never (pt_cmpR op_ge (pv 1) (pe_glob (v := .int 128) (by rfl) T.g_FIGURE_LIMIT ⟨_, rfl⟩) (nomark _)) (pss_cons (ps_expr (pe_bm PySem.F.plainAttrs_list PySem.F.slot_list_append PySem.F.type_list_append mt_append (pv 2) (pa_cons (pe_op op_add (pe_op op_mod (pv 1) (pe_glob (v := .int 128) (by rfl) T.g_FIGURE_LIMIT ⟨_, rfl⟩)) (pe_glob (v := .int 128) (by rfl) T.g_FIGURE_LIMIT ⟨_, rfl⟩)) pa_nil)))
      (pss_one (ps_set (i := 1) sc_whole.nd rfl (Or.inl rfl) (pe_op op_fdiv (pv 1) (pe_glob (v := .int 128) (by rfl) T.g_FIGURE_LIMIT ⟨_, rfl⟩))))))
      (pss_cons (ps_expr (pe_bm PySem.F.plainAttrs_list PySem.F.slot_list_append PySem.F.type_list_append mt_append (pv 2) (pa_cons (pv 1) pa_nil)))
      (pss_one (ps_ret (pv 2))))))), ?_⟩
    walk_at "rd"
    refine rd_disp rfl fun l nl => ?_
    walk_at "rd"
    refine ⟨fun μ σ H1 => ∃ (m : Nat) (pre : List Int), σ = [some (.int (n : Int)), some (.int (m : Int)), some (.ref l)] ∧ Same H H1 ∧ H1 l = some (.lst (pre.map V.int)) ∧ pre ++ wh m = wh n ∧ μ = m,
      ⟨n, n, [], rfl, same_new nl, upd_same, rfl, rfl⟩, ?_⟩
    rintro μ σ H1 ⟨m, pre, rfl, hs, hl, hw, hμ⟩
    have hlen : pre.length + (wh m).length ≤ 900000 := by
      rw [← hw, List.length_append] at hn
      exact hn
    have hp := wh_pos m
    have s2 : ∀ o, Same H (upd H1 l o) := fun o b u e => (upd_ne (ne_of_none e nl)).trans (hs b u e)
    walk_at "rd"
    refine rd_ite (fun h1 => ?_) (fun h1 => ?_)
    · have hm : ¬ m < 128 := by
        have := of_decide_eq_true h1
        omega
      refine ⟨fun σ' H' => ∃ m', m' < μ ∧ ∃ (m : Nat) (pre : List Int), σ' = [some (.int (n : Int)), some (.int (m : Int)), some (.ref l)] ∧ Same H H' ∧ H' l = some (.lst (pre.map V.int)) ∧ pre ++ wh m = wh n ∧ m' = m, fun _ _ h => h, ?_⟩
      walk_at "rd"
      refine ⟨.inl ⟨rfl, _, SqL.of hl⟩, ?_⟩
      walk_at "rd"
      refine rd_iC (show (0 : Int) < 128 by decide) ?_
      walk_at "rd"
      refine rd_append hl (small' (by rw [List.length_map]; omega)) ?_
      walk_at "rd"
      refine rd_iC (show (0 : Int) < 128 ∧ (128 : Int) < 1073741824 by decide) ?_
      walk_at "rd"
      refine ⟨m / 128, by omega, m / 128, pre ++ [((m % 128 + 128 : Nat) : Int)], by simp, s2 _, ?_, ?_, rfl⟩
      · rw [upd_same, List.map_append]
        simp
      · rw [List.append_assoc, ← hw, wh_ge hm]
        rfl
    · have hm : m < 128 := by
        have := of_decide_eq_false h1
        omega
      walk_at "rd"
      refine ⟨.inl ⟨rfl, _, SqL.of hl⟩, ?_⟩
      walk_at "rd"
      refine rd_append hl (small' (by rw [List.length_map]; omega)) ?_
      walk_at "rd"
      refine q l _ (s2 _) nl ?_
      rw [upd_same, ← hw, wh_lt hm, List.map_append]
      rfl
end
end Mw

/-! R3 -/
namespace Mw
open PySem L2
/-- the bytes of a thing that is plain, not deeper than told -/
def spTold (CP : Addr → Prop) (n : Nat) : Sp := fun vs H Q _ => ∃ M d x, vs = [x] ∧ Dt CP M H d x ∧ plainD d = true ∧ d.depth < n ∧ (byD d).length ≤ 900000 ∧ ∀ p H', Same H H' → H p = none → H' p = some (.lst ((byD d).map V.int)) → Q (.ref p) H'
theorem ord_one (c : Nat) : (((⟨#[c]⟩ : Str).cps.getD 0 0 : Nat) : Int) = (c : Int) := rfl
section
variable {P : Program} {w : World} {K : PySem.W.Frag} {mg : Str → Option Value} {base : Heap}
local macro_rules | `(tactic| walk_at "rd") => `(tactic| (repeat (first
  | ((with_reducible refine' rd_var ?h0 ?_); (case h0 => rfl))
  | with_reducible refine rd_c ?_
  | with_reducible refine rd_op ?_
  | with_reducible refine rd_nil ?_
  | with_reducible refine rd_cons ?_
  | with_reducible refine rd_tup ?_
  | with_reducible refine rd_lst ?_
  | with_reducible refine rd_ifs ?_
  | with_reducible refine rd_seq ?_
  | with_reducible refine rd_next ?_
  | with_reducible refine rd_ret ?_
  | with_reducible refine rd_asg ?_
  | ((with_reducible refine' rd_gset ?hs ?_); (case hs => ((simp only [L2.start, List.map_cons, List.map_nil, List.length_cons, List.length_nil, List.cons_append, List.nil_append, List.set_cons_zero, List.set_cons_succ, Nat.reduceAdd, Nat.reduceSub, Nat.zero_add, List.reduceReplicate]); rfl)))
  | with_reducible refine rd_drop ?_
  | with_reducible refine rd_test ?_
  | with_reducible refine rd_B ?_
  | with_reducible refine rd_bl ?_
  | with_reducible refine rd_blP ?_
  | with_reducible refine rd_andV ?_
  | with_reducible refine rd_orV ?_
  | with_reducible refine rd_notV ?_
  | with_reducible refine rd_and ?_
  | with_reducible refine rd_or ?_
  | with_reducible refine rd_not ?_
  | with_reducible refine rd_chain ?_
  | with_reducible refine rd_dput ?_
  | with_reducible refine rd_dget ?_
  | with_reducible refine rd_cb ?_
  | with_reducible refine rd_call ?_
  | with_reducible refine rd_un ?_
  | with_reducible refine rd_sl ?_
  | with_reducible refine rd_nopart ?_
  | with_reducible refine rd_part ?_
  | with_reducible refine rd_intP ?_
  | with_reducible refine rd_rU ?_
  | with_reducible refine rd_fld ?_
  | with_reducible refine rd_eqI ?_
  | with_reducible refine rd_neI ?_
  | with_reducible refine rd_mko ?_
  | with_reducible refine rd_bm ?_
  | with_reducible refine rd_gsub ?_
  | with_reducible refine rd_i0 ?_)))
theorem told_step (T : Tx K mg) (B : Bk K mg T) {n k : Nat} (hk : 1 ≤ k) (G_told : FnOk P w K mg base CX0 k B.told.f B.told.fd ["parcel"] (spTold T.CP n)) :
    FnOk P w K mg base CX0 (k + 1) B.told.f B.told.fd ["parcel"] (spTold T.CP (n + 1)) := by
  have G_whole := ok_whole (P := P) (w := w) (base := base) T B
  refine B.told.F.ok sc_told (fun vs H Q E h => ?_) (fun cdv A outer s H vs Q E hr h => ?_)
  · obtain ⟨M, d, x, rfl, _⟩ := h
    rfl
  · obtain ⟨M, d, x, rfl, hd, hp, hdep, hsz, q⟩ := h
    refine ⟨_, (pss_cons (ps_if (pt_cmpR op_isN (pv 0) pe_non (nomark _)) (pss_one (ps_ret (pe_lst (pa_cons (pe_glob (v := .int 0) (by rfl) T.g_NONE ⟨_, rfl⟩) pa_nil)))) pss_nil)
      (pss_cons (ps_if (pt_val (pe_callB call_isi (by rfl) T.b_isinstance (by decide +kernel) (pa_cons (pv 0) (pa_cons (pe_bltn (v := .ty "bool") (by rfl) T.b_bool (by decide +kernel) rfl) pa_nil)))) (pss_one (ps_ret (pe_lst (pa_cons (pe_ifExp (pt_val (pv 0)) (pe_glob (v := .int 2) (by rfl) T.g_YES ⟨_, rfl⟩) (pe_glob (v := .int 1) (by rfl) T.g_NO ⟨_, rfl⟩)) pa_nil)))) pss_nil)
      (pss_cons (ps_if (pt_val (pe_callB call_isi (by rfl) T.b_isinstance (by decide +kernel) (pa_cons (pv 0) (pa_cons (pe_bltn (v := .ty "int") (by rfl) T.b_int (by decide +kernel) rfl) pa_nil)))) (pss_one (ps_ret (pe_ifExp (pt_cmpR op_ge (pv 0) pe_int (nomark _)) (pe_op op_cat (pe_lst (pa_cons (pe_glob (v := .int 3) (by rfl) T.g_FROM_ZERO ⟨_, rfl⟩) pa_nil)) (pe_call G_whole (hr.mono (by omega)) rfl B.whole.m B.whole.F.kp B.whole.b .nil pass0 (pa_cons (pv 0) pa_nil))) (pe_op op_cat (pe_lst (pa_cons (pe_glob (v := .int 4) (by rfl) T.g_BELOW_ZERO ⟨_, rfl⟩) pa_nil)) (pe_call G_whole (hr.mono (by omega)) rfl B.whole.m B.whole.F.kp B.whole.b .nil pass0 (pa_cons (pe_op op_sub (pe_un un_neg pe_int) (pv 0)) pa_nil)))))) pss_nil)
      (pss_cons (ps_if (pt_val (pe_callB call_isi (by rfl) T.b_isinstance (by decide +kernel) (pa_cons (pv 0) (pa_cons (pe_bltn (v := .ty "str") (by rfl) T.b_str (by decide +kernel) rfl) pa_nil)))) (pss_one (ps_ret (pe_op op_cat (pe_op op_cat (pe_lst (pa_cons (pe_glob (v := .int 5) (by rfl) T.g_STRING ⟨_, rfl⟩) pa_nil)) (pe_call G_whole (hr.mono (by omega)) rfl B.whole.m B.whole.F.kp B.whole.b .nil pass0 (pa_cons (pe_callB call_len (by rfl) T.b_len (by decide +kernel) (pa_cons (pv 0) pa_nil)) pa_nil))) (pe_lc (own := [("sign", 3)]) (g := gName 3) rfl sc_told.nd (pi_str (pv 0)) (blkOk_by (own := [("sign", 3)]) (N := ["parcel", "told", "item", "sign"]) (sc := defScope s_told) (by decide +kernel)) (fun _ _ _ _ _ => pg_name (i := 3) sc_told.nd rfl (Or.inl rfl)) (fun _ _ _ _ _ => pts_nil) (fun _ _ _ _ _ => (pe_callB call_ord (by rfl) T.b_ord (by decide +kernel) (pa_cons (pv 3) pa_nil))))))) pss_nil)
      (pss_cons (ps_set (i := 1) sc_told.nd rfl (Or.inl rfl) (pe_op op_cat (pe_lst (pa_cons (pe_glob (v := .int 6) (by rfl) T.g_TUPLE ⟨_, rfl⟩) pa_nil)) (pe_call G_whole (hr.mono (by omega)) rfl B.whole.m B.whole.F.kp B.whole.b .nil pass0 (pa_cons (pe_callB call_len (by rfl) T.b_len (by decide +kernel) (pa_cons (pv 0) pa_nil)) pa_nil))))
      (pss_cons (ps_for PassesOwn.never rfl (pi_tup (pv 0)) (pg_name (i := 2) sc_told.nd rfl (Or.inl rfl)) (pss_one (ps_expr (pe_bm PySem.F.plainAttrs_list PySem.F.slot_list_extend PySem.F.type_list_extend mt_extend (pv 1) (pa_cons (pe_call G_told (hr.mono (by omega)) rfl B.told.m B.told.F.kp B.told.b .nil pass0 (pa_cons (pv 2) pa_nil)) pa_nil)))))
      (pss_one (ps_ret (pv 1))))))))), ?_⟩
    have hd' := hd
    cases d with
    | none =>
      cases dt_non' hd'
      walk_at "rd"
      refine ⟨rfl, ?_⟩
      walk_at "rd"
      refine rd_yes rfl ?_
      walk_at "rd"
      refine rd_disp rfl fun l nl => ?_
      exact q l _ (same_new nl) nl upd_same
    | bool b =>
      cases dt_bl' hd'
      walk_at "rd"
      refine ⟨rfl, ?_⟩
      walk_at "rd"
      refine rd_no rfl ?_
      walk_at "rd"
      refine dt_isB T.W hd ?_
      walk_at "rd"
      refine rd_yes rfl ?_
      walk_at "rd"
      cases b with
      | true =>
        refine rd_ifx ?_
        walk_at "rd"
        refine rd_yes rfl ?_
        walk_at "rd"
        refine rd_disp rfl fun l nl => ?_
        exact q l _ (same_new nl) nl upd_same
      | false =>
        refine rd_ifx ?_
        walk_at "rd"
        refine rd_no rfl ?_
        walk_at "rd"
        refine rd_disp rfl fun l nl => ?_
        exact q l _ (same_new nl) nl upd_same
    | int i =>
      cases dt_int' hd'
      walk_at "rd"
      refine ⟨rfl, ?_⟩
      walk_at "rd"
      refine rd_no rfl ?_
      walk_at "rd"
      refine dt_isB T.W hd ?_
      walk_at "rd"
      refine rd_no rfl ?_
      walk_at "rd"
      refine dt_isI T.W hd ?_
      walk_at "rd"
      refine rd_yes rfl ?_
      walk_at "rd"
      refine rd_ifx ?_
      walk_at "rd"
      refine rd_ite (fun h1 => ?_) (fun h1 => ?_)
      · have hi : 0 ≤ i := of_decide_eq_true h1
        have e : byD (.int i) = 3 :: wh i.toNat := if_pos hi
        rw [e] at q hsz
        rw [List.length_cons] at hsz
        walk_at "rd"
        refine rd_disp rfl fun l nl => ?_
        have s1 := same_new (o := .lst [.int 3]) nl
        walk_at "rd"
        refine ⟨i.toNat, by rw [Int.toNat_of_nonneg hi]; rfl, by omega, fun p H1 s2 np hp1 => ?_⟩
        refine ⟨l, p, _, _, rfl, rfl, s2 _ _ upd_same, hp1, small (by simp; omega), fun l2 n2 => ?_⟩
        have s3 := s1.trans s2
        exact q l2 _ (s3.trans (same_new n2)) (s3.free n2) upd_same
      · have hi : ¬ 0 ≤ i := of_decide_eq_false h1
        have e : byD (.int i) = 4 :: wh (-1 - i).toNat := if_neg hi
        rw [e] at q hsz
        rw [List.length_cons] at hsz
        walk_at "rd"
        refine rd_disp rfl fun l nl => ?_
        have s1 := same_new (o := .lst [.int 4]) nl
        walk_at "rd"
        refine ⟨(-1 - i).toNat, by rw [Int.toNat_of_nonneg (by omega)]; rfl, by omega, fun p H1 s2 np hp1 => ?_⟩
        refine ⟨l, p, _, _, rfl, rfl, s2 _ _ upd_same, hp1, small (by simp; omega), fun l2 n2 => ?_⟩
        have s3 := s1.trans s2
        exact q l2 _ (s3.trans (same_new n2)) (s3.free n2) upd_same
    | str z =>
      cases dt_str' hd'
      have e : byD (.str z) = 5 :: (wh z.length ++ sgn z) := rfl
      rw [e] at q hsz
      have esg : (sgn z).length = z.length := by
        unfold sgn
        rw [List.length_map, Array.length_toList]
        rfl
      rw [List.length_cons, List.length_append, esg] at hsz
      walk_at "rd"
      refine ⟨rfl, ?_⟩
      walk_at "rd"
      refine rd_no rfl ?_
      walk_at "rd"
      refine dt_isB T.W hd ?_
      walk_at "rd"
      refine rd_no rfl ?_
      walk_at "rd"
      refine dt_isI T.W hd ?_
      walk_at "rd"
      refine rd_no rfl ?_
      walk_at "rd"
      refine dt_isS T.W hd ?_
      walk_at "rd"
      refine rd_yes rfl ?_
      walk_at "rd"
      refine rd_disp rfl fun l nl => ?_
      have s1 := same_new (o := .lst [.int 5]) nl
      walk_at "rd"
      refine ⟨_, z.length, rfl, ⟨small (by omega), rfl⟩, ?_⟩
      walk_at "rd"
      refine ⟨z.length, rfl, by omega, fun p H1 s2 np hp1 => ?_⟩
      refine ⟨l, p, _, _, rfl, rfl, s2 _ _ upd_same, hp1, small (by simp; omega), fun l2 n2 => ?_⟩
      have s3 := (s1.trans s2).trans (same_new (o := .lst ([V.int 5] ++ (wh z.length).map V.int)) n2)
      walk_at "rd"
      show iStr _ _ _ _
      refine rd_istr ?_
      walk_at "rd"
      refine ⟨z, rfl, fun D hD => lc_it walk_str (fun i H2 => Same H H2 ∧ H2 l2 = some (.lst ([V.int 5] ++ (wh z.length).map V.int)) ∧ H2 D = some (.lst (((sgn z).take i).map V.int)))
        ⟨s3.trans (same_new hD), (upd_ne (ne_of_none upd_same hD)).trans upd_same, upd_same⟩ (fun _ _ _ _ => trivial) ?_ ?_⟩
      · rintro i y H2 H3 hi ⟨hs, hl2, hacc⟩ ⟨rfl, c, hc, rfl⟩
        refine ⟨rfl, ?_⟩
        refine rd_tyes ?_
        refine rd_yes rfl ?_
        walk_at "rd"
        refine ⟨_, rfl, rfl, ?_⟩
        have nD : H D = none := s3.free hD
        have hz : (sgn z)[i]? = some (c : Int) := by
          unfold sgn
          rw [List.getElem?_map, Array.getElem?_toList, hc]
          rfl
        refine ⟨_, hacc, small' (by rw [List.length_map, List.length_take]; omega), fun b o eb => (upd_ne (ne_of_none eb nD)).trans (hs b o eb), ?_, ?_⟩
        · rw [upd_ne (ne_of_none upd_same hD)]
          exact hl2
        · rw [upd_same, take_snoc hz, List.map_append]
          rfl
      · rintro H2 ⟨hs, hl2, hacc⟩
        rw [List.take_of_length_le (by rw [esg]; exact Nat.le_refl _)] at hacc
        walk_at "rd"
        refine ⟨l2, D, _, _, rfl, rfl, hl2, hacc, small (by simp; omega), fun l3 n3 => ?_⟩
        walk_at "rd"
        refine q l3 _ (hs.trans (same_new n3)) (hs.free n3) ?_
        rw [upd_same, List.map_cons, List.map_append]
        simp
    | tuple ds =>
      obtain ⟨a, xs, rfl, ha, hx⟩ := dt_tup' hd'
      have hlx := hx.len
      have e : byD (.tuple ds) = 6 :: (wh ds.length ++ byAll ds) := rfl
      rw [e] at q hsz
      rw [List.length_cons, List.length_append] at hsz
      have hdep2 : PyData.depthAll ds + 1 < n + 1 := hdep
      walk_at "rd"
      refine ⟨rfl, ?_⟩
      walk_at "rd"
      refine rd_no rfl ?_
      walk_at "rd"
      refine dt_isB T.W hd ?_
      walk_at "rd"
      refine rd_no rfl ?_
      walk_at "rd"
      refine dt_isI T.W hd ?_
      walk_at "rd"
      refine rd_no rfl ?_
      walk_at "rd"
      refine dt_isS T.W hd ?_
      walk_at "rd"
      refine rd_no rfl ?_
      walk_at "rd"
      refine rd_disp rfl fun l nl => ?_
      have s1 := same_new (o := .lst [.int 6]) nl
      walk_at "rd"
      refine ⟨_, xs.length, rfl, .inr ⟨xs, SqT.of (s1 _ _ ha), rfl⟩, ?_⟩
      walk_at "rd"
      refine ⟨xs.length, rfl, by rw [← hlx]; omega, fun p H1 s2 np hp1 => ?_⟩
      refine ⟨l, p, _, _, rfl, rfl, s2 _ _ upd_same, hp1, small (by rw [← hlx]; simp; omega), fun l2 n2 => ?_⟩
      have s12 := s1.trans s2
      have nl2 : H l2 = none := s12.free n2
      have s3 := s12.trans (same_new (o := .lst ([V.int 6] ++ (wh xs.length).map V.int)) n2)
      walk_at "rd"
      refine ⟨_, rfl, a, rfl, ⟨xs, SqT.of (s3 _ _ ha)⟩, for_tup (K := K) (a := a) (xs := xs) (fun i σ H2 => Same H H2 ∧ H2 l2 = some (.lst ((6 :: (wh ds.length ++ byAll (ds.take i))).map V.int)) ∧ ∃ u, σ = [some (.ref a), some (.ref l2), u, none])
        ⟨s3, by rw [upd_same, ← hlx]; simp [byAll], none, rfl⟩ (fun i σ H2 _ hh => SqT.of (hh.1 _ _ ha)) ?_ ?_⟩
      · rintro i y σ H2 hi ⟨hs, hl2, u, rfl⟩
        obtain ⟨d1, hd1, td1⟩ := hx.get' hi
        have dep := depthAll_get hd1
        have sz1 := byAll_get hd1
        have sz2 : (byAll (ds.take (i + 1))).length ≤ (byAll ds).length := byAll_take ds (i + 1)
        have ebt : byAll (ds.take (i + 1)) = byAll (ds.take i) ++ byD d1 := by
          rw [take_snoc hd1, byAll_app, byAll_one]
        rw [ebt, List.length_append] at sz2
        walk_at "rd"
        refine ⟨.inl ⟨rfl, _, SqL.of hl2⟩, ?_⟩
        walk_at "rd"
        refine ⟨M, d1, y, rfl, td1.s hs, plainAll_get hp hd1, by omega, by omega, fun p2 H3 s4 np2 hp2 => ?_⟩
        walk_at "rd"
        refine ⟨l2, p2, _, _, rfl, rfl, s4 _ _ hl2, hp2, small (by simp; omega), ?_⟩
        refine ⟨fun b o eb => (upd_ne (ne_of_none eb nl2)).trans (s4 _ _ (hs b o eb)), ?_, _, rfl⟩
        rw [upd_same, ebt]
        simp
      · rintro σ H2 ⟨hs, hl2, u, rfl⟩
        rw [← hlx, List.take_length] at hl2
        walk_at "rd"
        exact q l2 _ hs nl2 hl2
    | list es => simp only [plainD] at hp; cases hp
    | dict es => simp only [plainD] at hp; cases hp
theorem ok_told_n (T : Tx K mg) (B : Bk K mg T) : ∀ n, FnOk P w K mg base CX0 (n + 2) B.told.f B.told.fd ["parcel"] (spTold T.CP n)
  | 0 => fn_no fun vs H Q E h => by
    obtain ⟨M, d, x, _, _, _, hd, _⟩ := h
    omega
  | n + 1 => told_step T B (by omega) (ok_told_n T B n)
end
end Mw

/-! R4m -/
/-! What a parcel is; how long its bytes are. -/
namespace Mw
open PySem L2
def isSign (c : Int) : Bool := (decide (32 ≤ c) && decide (c ≤ 126)) && !decide (c = 37)
def okStr (s : Str) : Bool := (decide (0 < s.length) && decide (s.length ≤ 20)) && (sgn s).all isSign
mutual
def isPc : Nat → PyData → Bool
  | n, .tuple ds => decide (0 < n) && isPcAll (n - 1) ds
  | _, .str s => okStr s
  | _, .none | _, .bool _ | _, .int _ => true
  | _, .list _ | _, .dict _ => false
def isPcAll : Nat → List PyData → Bool
  | _, [] => true
  | n, d :: ds => isPc n d && isPcAll n ds
end
theorem isPcAll_iff {n : Nat} : ∀ {ds : List PyData}, isPcAll n ds = true ↔ ∀ d ∈ ds, isPc n d = true
  | [] => by simp [isPcAll]
  | d :: ds => by
    simp only [isPcAll, Bool.and_eq_true, List.mem_cons, forall_eq_or_imp, isPcAll_iff (ds := ds)]
mutual
theorem isPc_mono : ∀ {n m : Nat} (d : PyData), n ≤ m → isPc n d = true → isPc m d = true
  | n, m, .none, _, _ => rfl
  | n, m, .bool _, _, _ => rfl
  | n, m, .int _, _, _ => rfl
  | n, m, .str s, _, h => h
  | n, m, .list _, _, h => h
  | n, m, .dict _, _, h => h
  | n, m, .tuple ds, l, h => by
    simp only [isPc, Bool.and_eq_true, decide_eq_true_eq] at h ⊢
    exact ⟨by omega, isPcAll_mono ds (by omega) h.2⟩
theorem isPcAll_mono : ∀ {n m : Nat} (ds : List PyData), n ≤ m → isPcAll n ds = true → isPcAll m ds = true
  | n, m, [], _, _ => rfl
  | n, m, d :: ds, l, h => by
    simp only [isPcAll, Bool.and_eq_true] at h ⊢
    exact ⟨isPc_mono d l h.1, isPcAll_mono ds l h.2⟩
end
mutual
theorem isPc_plain : ∀ {n : Nat} (d : PyData), isPc n d = true → plainD d = true
  | n, .none, _ => rfl
  | n, .bool _, _ => rfl
  | n, .int _, _ => rfl
  | n, .str s, h => rfl
  | n, .list _, h => by simp [isPc] at h
  | n, .dict _, h => by simp [isPc] at h
  | n, .tuple ds, h => by
    simp only [isPc, Bool.and_eq_true, decide_eq_true_eq] at h
    simp only [plainD]
    exact isPcAll_plain ds h.2
theorem isPcAll_plain : ∀ {n : Nat} (ds : List PyData), isPcAll n ds = true → plainAll ds = true
  | n, [], _ => rfl
  | n, d :: ds, h => by
    simp only [isPcAll, plainAll, Bool.and_eq_true] at h ⊢
    exact ⟨isPc_plain d h.1, isPcAll_plain ds h.2⟩
end
mutual
theorem isPc_depth : ∀ {n : Nat} (d : PyData), isPc n d = true → d.depth ≤ n
  | n, .none, _ => Nat.zero_le _
  | n, .bool _, _ => Nat.zero_le _
  | n, .int _, _ => Nat.zero_le _
  | n, .str s, h => Nat.zero_le _
  | n, .list _, h => by simp [isPc] at h
  | n, .dict _, h => by simp [isPc] at h
  | n, .tuple ds, h => by
    simp only [isPc, Bool.and_eq_true, decide_eq_true_eq] at h
    show PyData.depthAll ds + 1 ≤ n
    have := isPcAll_depth ds h.2
    omega
theorem isPcAll_depth : ∀ {n : Nat} (ds : List PyData), isPcAll n ds = true → PyData.depthAll ds ≤ n
  | n, [], _ => Nat.zero_le _
  | n, d :: ds, h => by
    simp only [isPcAll, Bool.and_eq_true] at h
    exact Nat.max_le.mpr ⟨isPc_depth d h.1, isPcAll_depth ds h.2⟩
end
theorem okStr_lay {s : Str} (h : okStr s = true) : (PyData.str s).canLay0 = true := by
  unfold okStr at h
  simp only [Bool.and_eq_true, decide_eq_true_eq] at h
  have h2 : ∀ c ∈ s.cps.toList, isSign (c : Int) = true := fun c hc => List.all_eq_true.mp h.2 _ (List.mem_map.mpr ⟨c, hc, rfl⟩)
  show s.cps.all (· < 0x110000) = true
  rw [Array.all_eq_true']
  intro c hc
  have h3 := h2 c (by simpa using hc)
  unfold isSign at h3
  simp only [Bool.and_eq_true, decide_eq_true_eq] at h3
  exact decide_eq_true (by omega)
mutual
theorem isPc_lay : ∀ {n : Nat} (d : PyData), isPc n d = true → d.canLay0 = true
  | n, .none, _ => rfl
  | n, .bool _, _ => rfl
  | n, .int _, _ => rfl
  | n, .str s, h => okStr_lay h
  | n, .list _, h => by simp [isPc] at h
  | n, .dict _, h => by simp [isPc] at h
  | n, .tuple ds, h => by
    simp only [isPc, Bool.and_eq_true, decide_eq_true_eq] at h
    simp only [PyData.canLay0]
    exact isPcAll_lay ds h.2
theorem isPcAll_lay : ∀ {n : Nat} (ds : List PyData), isPcAll n ds = true → PyData.canLayAll0 ds = true
  | n, [], _ => rfl
  | n, d :: ds, h => by
    simp only [isPcAll, PyData.canLayAll0, Bool.and_eq_true] at h ⊢
    exact ⟨isPc_lay d h.1, isPcAll_lay ds h.2⟩
end
theorem wh_len : ∀ (k n : Nat), n < 128 ^ (k + 1) → (wh n).length ≤ k + 1
  | 0, n, h => by
    rw [wh_lt (by simpa using h)]
    exact Nat.le_refl _
  | k + 1, n, h => by
    by_cases c : n < 128
    · rw [wh_lt c]
      simp
    · rw [wh_ge c, List.length_cons]
      have : n / 128 < 128 ^ (k + 1) := by
        rw [Nat.div_lt_iff_lt_mul (by decide)]
        rw [Nat.pow_succ] at h
        exact h
      have := wh_len k (n / 128) this
      omega
theorem byAll_le {b : Nat} : ∀ {ds : List PyData}, (∀ d ∈ ds, (byD d).length ≤ b) → (byAll ds).length ≤ ds.length * b
  | [], _ => Nat.zero_le _
  | d :: ds, h => by
    have h1 := h d (by simp)
    have h2 := byAll_le fun e he => h e (List.mem_cons_of_mem _ he)
    show (byD d ++ byAll ds).length ≤ (ds.length + 1) * b
    rw [List.length_append, Nat.add_mul]
    omega
def bB : Nat → Nat
  | 0 => 22
  | n + 1 => 4 * bB n + 910
theorem bB_ge (n : Nat) : 22 ≤ bB n := by
  cases n with
  | zero => exact Nat.le_refl _
  | succ n =>
    show 22 ≤ 4 * bB n + 910
    omega
theorem by_int {i : Int} (h : i.natAbs < 10 ^ 20 + 1) : (byD (.int i)).length ≤ 11 := by
  have e : (128 : Nat) ^ 10 = 1180591620717411303424 := by decide
  show (if 0 ≤ i then (3 : Int) :: wh i.toNat else 4 :: wh (-1 - i).toNat).length ≤ 11
  by_cases c : 0 ≤ i
  · rw [if_pos c, List.length_cons]
    have := wh_len 9 i.toNat (by rw [e]; omega)
    omega
  · rw [if_neg c, List.length_cons]
    have := wh_len 9 (-1 - i).toNat (by rw [e]; omega)
    omega
theorem by_small {i : Int} (h0 : 0 ≤ i) (h : i < 300) : (byD (.int i)).length ≤ 3 := by
  have e : (128 : Nat) ^ 2 = 16384 := by decide
  show (if 0 ≤ i then (3 : Int) :: wh i.toNat else 4 :: wh (-1 - i).toNat).length ≤ 3
  rw [if_pos h0, List.length_cons]
  have := wh_len 1 i.toNat (by rw [e]; omega)
  omega
theorem sgn_len (s : Str) : (sgn s).length = s.length := by
  unfold sgn
  rw [List.length_map, Array.length_toList]
  rfl
theorem by_str {s : Str} (h : okStr s = true) : (byD (.str s)).length ≤ 22 := by
  unfold okStr at h
  simp only [Bool.and_eq_true, decide_eq_true_eq] at h
  show ((5 : Int) :: (wh s.length ++ sgn s)).length ≤ 22
  rw [List.length_cons, List.length_append, sgn_len, wh_lt (by omega)]
  simp
  omega
theorem by_tup {ds : List PyData} {b k : Nat} (h : ∀ d ∈ ds, (byD d).length ≤ b) (hl : ds.length ≤ k) (hk : k < 16384) : (byD (.tuple ds)).length ≤ k * b + 3 := by
  have e : (128 : Nat) ^ 2 = 16384 := by decide
  have h1 := byAll_le h
  have h2 := wh_len 1 ds.length (by rw [e]; omega)
  have h3 := Nat.mul_le_mul_right b hl
  show ((6 : Int) :: (wh ds.length ++ byAll ds)).length ≤ k * b + 3
  rw [List.length_cons, List.length_append]
  omega
end Mw

/-! R4 -/
namespace Mw
open PySem L2
/-- the pool: a list at p, its cells at l -/
def PoolAt (H : Hp) (p l : Addr) : Prop := ∃ (s c : Int) (cs : List Int), H p = some (.lst [.int s, .int c, .ref l]) ∧ H l = some (.lst (cs.map V.int)) ∧ l ≠ p
theorem PoolAt.same {H H' : Hp} {p l : Addr} (h : PoolAt H p l) (s : Same H H') : PoolAt H' p l := by
  obtain ⟨a, b, c, h1, h2, r⟩ := h
  exact ⟨a, b, c, s _ _ h1, s _ _ h2, r⟩
theorem PoolAt.new {H : Hp} {p l q : Addr} {o : HO} (h : PoolAt H p l) (n : H q = none) : PoolAt (upd H q o) p l := h.same (same_new n)
theorem PoolAt.p {H : Hp} {p l : Addr} (h : PoolAt H p l) : ∃ us, H p = some (.lst us) := by
  obtain ⟨a, b, c, h1, h2, r⟩ := h
  exact ⟨_, h1⟩
theorem PoolAt.l {H : Hp} {p l : Addr} (h : PoolAt H p l) : ∃ us, H l = some (.lst us) := by
  obtain ⟨a, b, c, h1, h2, r⟩ := h
  exact ⟨_, h2⟩
theorem PoolAt.out {H : Hp} {p l q : Addr} (h : PoolAt H p l) (n : H q = none) : q ∉ [p, l] := by
  obtain ⟨us, h1⟩ := h.p
  obtain ⟨ws, h2⟩ := h.l
  have n1 := ne_of_none h1 n
  have n2 := ne_of_none h2 n
  simp [n1.symm, n2.symm]
/-- an object of ours that is no part of the pool changes -/
theorem PoolAt.upd {H : Hp} {p l q : Addr} {o : HO} (h : PoolAt H p l) (n : q ∉ [p, l]) : PoolAt (upd H q o) p l := by
  obtain ⟨a, b, c, h1, h2, r⟩ := h
  simp at n
  exact ⟨a, b, c, (upd_ne (fun z => n.1 z.symm)).trans h1, (upd_ne (fun z => n.2 z.symm)).trans h2, r⟩
def spPool (K : PySem.W.Frag) : Sp := fun vs H Q _ => ∃ (a : Addr) (ns : List Int), vs = [.ref a] ∧ SqL K H a (ns.map V.int) ∧ ∀ p l H', H p = none → H l = none → PoolAt H' p l → Same H H' → Q (.ref p) H'
def spDraw : Sp := fun vs H Q _ => ∃ (p l : Addr) (m : Int), vs = [.ref p, .int m] ∧ 1 ≤ m ∧ m < 1073741824 ∧ PoolAt H p l ∧ ∀ r H', 0 ≤ r → r < m → PoolAt H' p l → FK [p, l] H H' → Q (.int r) H'
theorem cut_int (ns : List Int) (lo hi : Option Int) : ∃ ms : List Int, cutV (ns.map V.int) lo hi = ms.map V.int ∧ ms.length ≤ ns.length := by
  refine ⟨(ns.drop (HT.sIx ns.length 0 lo)).take (HT.sIx ns.length ns.length hi - HT.sIx ns.length 0 lo), ?_, ?_⟩
  · unfold cutV
    rw [List.length_map, List.map_take, List.map_drop]
  · rw [List.length_take, List.length_drop]
    omega
theorem cut_len63 (ns : List Int) : (cutV (ns.map V.int) none (some 63)).length ≤ 63 := by
  unfold cutV
  rw [List.length_take]
  have : HT.sIx (ns.map V.int).length (ns.map V.int).length (some 63) ≤ 63 := by
    show (if (63 : Int) < 0 then ((63 : Int) + ((ns.map V.int).length : Int)).toNat else min (63 : Int).toNat (ns.map V.int).length) ≤ 63
    rw [if_neg (by decide)]
    exact Nat.min_le_left _ _
  omega
section
variable {P : Program} {w : World} {K : PySem.W.Frag} {mg : Str → Option Value} {base : Heap}
local macro_rules | `(tactic| walk_at "rd") => `(tactic| (repeat (first
  | ((with_reducible refine' rd_var ?h0 ?_); (case h0 => rfl))
  | with_reducible refine rd_c ?_
  | with_reducible refine rd_op ?_
  | with_reducible refine rd_nil ?_
  | with_reducible refine rd_cons ?_
  | with_reducible refine rd_tup ?_
  | with_reducible refine rd_lst ?_
  | with_reducible refine rd_ifs ?_
  | with_reducible refine rd_seq ?_
  | with_reducible refine rd_next ?_
  | with_reducible refine rd_ret ?_
  | with_reducible refine rd_asg ?_
  | ((with_reducible refine' rd_gset ?hs ?_); (case hs => ((simp only [L2.start, List.map_cons, List.map_nil, List.length_cons, List.length_nil, List.cons_append, List.nil_append, List.set_cons_zero, List.set_cons_succ, Nat.reduceAdd, Nat.reduceSub, Nat.zero_add, List.reduceReplicate]); rfl)))
  | with_reducible refine rd_drop ?_
  | with_reducible refine rd_test ?_
  | with_reducible refine rd_B ?_
  | with_reducible refine rd_bl ?_
  | with_reducible refine rd_blP ?_
  | with_reducible refine rd_andV ?_
  | with_reducible refine rd_orV ?_
  | with_reducible refine rd_notV ?_
  | with_reducible refine rd_and ?_
  | with_reducible refine rd_or ?_
  | with_reducible refine rd_not ?_
  | with_reducible refine rd_chain ?_
  | with_reducible refine rd_dput ?_
  | with_reducible refine rd_dget ?_
  | with_reducible refine rd_cb ?_
  | with_reducible refine rd_call ?_
  | with_reducible refine rd_un ?_
  | with_reducible refine rd_sl ?_
  | with_reducible refine rd_nopart ?_
  | with_reducible refine rd_part ?_
  | with_reducible refine rd_intP ?_
  | with_reducible refine rd_rU ?_
  | with_reducible refine rd_fld ?_
  | with_reducible refine rd_eqI ?_
  | with_reducible refine rd_neI ?_
  | with_reducible refine rd_mko ?_
  | with_reducible refine rd_bm ?_
  | with_reducible refine rd_gsub ?_
  | with_reducible refine rd_i0 ?_)))
theorem ok_law_pool (T : Tx K mg) (B : Bk K mg T) : FnOk P w K mg base CX0 1 B.law_pool.f B.law_pool.fd ["script"] (spPool K) := by
  refine B.law_pool.F.ok sc_law_pool (fun vs H Q E h => ?_) (fun cdv A outer s H vs Q E hr h => ?_)
  · obtain ⟨a, ns, rfl, _⟩ := h
    rfl
  · obtain ⟨a, ns, rfl, ha, q⟩ := h
    refine ⟨_, (pss_cons (ps_set (i := 1) sc_law_pool.nd rfl (Or.inl rfl) (pe_op op_add (pe_op op_add (pe_op op_mod (pe_callTy call_int1 (by rfl) T.b_int (by decide +kernel) (pa_cons (pe_callB (cr_sum rfl) (by rfl) T.b_sum (by decide +kernel) (pa_cons (pe_slice sl_list (pv 0) po_none (po_some pe_int)) pa_nil)) pa_nil)) pe_int) (pe_callB call_len_seq (by rfl) T.b_len (by decide +kernel) (pa_cons (pv 0) pa_nil))) pe_int))
      (pss_cons (ps_for PassesOwn.never rfl (pi_list (pe_slice sl_list (pv 0) po_none (po_some pe_int))) (pg_name (i := 2) sc_law_pool.nd rfl (Or.inl rfl)) (pss_one (ps_set (i := 1) sc_law_pool.nd rfl (Or.inl rfl) (pe_op op_mod (pe_callTy call_int1 (by rfl) T.b_int (by decide +kernel) (pa_cons (pe_op op_add (pe_op op_add (pe_op op_mul (pv 1) pe_int) (pe_op op_mod (pe_callTy call_int1 (by rfl) T.b_int (by decide +kernel) (pa_cons (pv 2) pa_nil)) pe_int)) pe_int) pa_nil)) pe_int))))
      (pss_one (ps_ret (pe_lst (pa_cons (pv 1) (pa_cons pe_int (pa_cons (pe_lc (own := [("cell", 2)]) (g := gName 2) rfl sc_law_pool.nd (pi_list (pe_slice sl_list (pv 0) po_none (po_some pe_int))) (blkOk_by (own := [("cell", 2)]) (N := ["script", "seed", "cell"]) (sc := defScope s_law_pool) (by decide +kernel)) (fun _ _ _ _ _ => pg_name (i := 2) sc_law_pool.nd rfl (Or.inl rfl)) (fun _ _ _ _ _ => (pts_one (pt_cmpR op_ge (pe_callB call_abs (by rfl) T.b_abs (by decide +kernel) (pa_cons (pv 2) pa_nil)) (pe_op op_pow pe_int pe_int) (nomark _)))) (fun _ _ _ _ _ => (pe_callB call_abs (by rfl) T.b_abs (by decide +kernel) (pa_cons (pv 2) pa_nil)))) pa_nil)))))))), ?_⟩
    walk_at "rd"
    refine ⟨a, _, rfl, ha, fun b nb => ?_⟩
    obtain ⟨ms, em, hms⟩ := cut_int ns none (some 1)
    rw [em]
    have s1 := same_new (o := .lst (ms.map V.int)) nb
    refine ⟨b, ms, rfl, SqL.of upd_same, ?_⟩
    refine .inl ⟨_, rfl, ?_⟩
    walk_at "rd"
    refine rd_iC (show (0 : Int) < 1000003 by decide) ?_
    walk_at "rd"
    refine ⟨a, _, rfl, .inl (Same.seq s1 ha), ?_⟩
    walk_at "rd"
    show iList _ _ _ _ _
    refine rd_ilist ?_
    walk_at "rd"
    refine ⟨a, _, rfl, Same.seq s1 ha, fun c nc => ?_⟩
    obtain ⟨cs, ec, hcs⟩ := cut_int ns none (some 63)
    have l63 := cut_len63 ns
    rw [ec] at l63 ⊢
    rw [List.length_map] at l63
    have s2 := s1.trans (same_new (o := .lst (cs.map V.int)) nc)
    refine ⟨c, rfl, ⟨_, SqL.of upd_same⟩, for_list (K := K) (a := c) (xs := cs.map V.int) (fun i σ H1 => Same H H1 ∧ H1 c = some (.lst (cs.map V.int)) ∧ ∃ (z : Int) (u : Option V), σ = [some (.ref a), some (.int z), u])
      ⟨s2, upd_same, _, _, rfl⟩ (fun i σ H1 _ hh => SqL.of hh.2.1) ?_ ?_⟩
    · rintro i y σ H1 hi ⟨hs, hc, z, u, rfl⟩
      obtain ⟨m, _, rfl⟩ := mapint_get hi
      walk_at "rd"
      refine rd_iC (.inr ⟨by decide, by decide⟩) ?_
      walk_at "rd"
      refine .inl ⟨_, rfl, ?_⟩
      walk_at "rd"
      refine rd_iC (show (0 : Int) < 2147483629 by decide) ?_
      walk_at "rd"
      refine .inl ⟨_, rfl, ?_⟩
      walk_at "rd"
      refine rd_iC (show (0 : Int) < 2147483647 by decide) ?_
      exact ⟨hs, hc, _, _, rfl⟩
    · rintro σ H1 ⟨hs, hc, z, u, rfl⟩
      walk_at "rd"
      show iList _ _ _ _ _
      refine rd_ilist ?_
      walk_at "rd"
      refine ⟨a, _, rfl, Same.seq hs ha, fun d nd => ?_⟩
      rw [ec]
      have s3 := hs.trans (same_new (o := .lst (cs.map V.int)) nd)
      refine ⟨d, rfl, ⟨_, SqL.of upd_same⟩, fun D hD => lc_list (K := K) (a := d) (xs := cs.map V.int) (fun i H2 => Same H H2 ∧ H2 d = some (.lst (cs.map V.int)) ∧ ∃ fs : List Int, fs.length ≤ i ∧ H2 D = some (.lst (fs.map V.int)))
        ⟨s3.trans (same_new hD), (upd_ne (ne_of_none upd_same hD)).trans upd_same, [], Nat.le_refl _, upd_same⟩ (fun i H2 _ hh => SqL.of hh.2.1) ?_ ?_⟩
      · rintro i y H2 hi ⟨hs2, hd2, fs, hf, hacc⟩
        obtain ⟨m, hm, rfl⟩ := mapint_get hi
        have il := (List.getElem?_eq_some_iff.mp hm).1
        refine ⟨rfl, ?_⟩
        walk_at "rd"
        refine ⟨_, rfl, ?_⟩
        walk_at "rd"
        refine rd_iC ⟨by decide, by decide, by decide⟩ ?_
        walk_at "rd"
        refine rd_ite (fun h1 => ?_) (fun h1 => ?_)
        · walk_at "rd"
          refine ⟨_, rfl, ?_⟩
          have nD : H D = none := s3.free hD
          have el : (fs ++ [if m < 0 then -m else m]).length ≤ i + 1 := by
            rw [List.length_append, List.length_singleton]
            omega
          have hd3 : H2 D ≠ some (.lst (cs.map V.int)) ∨ d ≠ D := .inr (ne_of_none (upd_same (H := H1) (a := d) (o := .lst (cs.map V.int))) hD)
          refine ⟨_, hacc, small' (by rw [List.length_map]; omega), ?_, (upd_ne (ne_of_none (upd_same (H := H1) (a := d) (o := .lst (cs.map V.int))) hD)).trans hd2, _, el, ?_⟩
          · exact fun b o eb => (upd_ne (ne_of_none eb nD)).trans (hs2 b o eb)
          · rw [upd_same, List.map_append]
            rfl
        · exact ⟨hs2, hd2, fs, by omega, hacc⟩
      · rintro H2 ⟨hs2, hd2, fs, hf, hacc⟩
        walk_at "rd"
        refine rd_disp rfl fun p np => ?_
        refine q p D _ (hs2.free np) (s3.free hD) ⟨_, _, fs, upd_same, (upd_ne (ne_of_none hacc np)).trans hacc, ne_of_none hacc np⟩ (hs2.trans (same_new np))
theorem ok_law_draw (T : Tx K mg) (B : Bk K mg T) : FnOk P w K mg base CX0 1 B.law_draw.f B.law_draw.fd ["pool", "many"] spDraw := by
  refine B.law_draw.F.ok sc_law_draw (fun vs H Q E h => ?_) (fun cdv A outer s H vs Q E hr h => ?_)
  · obtain ⟨p, l, m, rfl, _⟩ := h
    rfl
  · obtain ⟨p, l, m, rfl, m1, m2, ⟨s, c, cs, hp, hl, hlp⟩, q⟩ := h
    refine ⟨_, (pss_cons (ps_asg (pe_op op_add (pe_ix ix_list (pv 0) pe_int (fun _ _ => rfl)) pe_int) (pg_sub (pv 0) pe_int set_list))
      (pss_cons (ps_set (i := 2) sc_law_draw.nd rfl (Or.inl rfl) (pe_ix ix_list (pv 0) pe_int (fun _ _ => rfl)))
      (C8.pss_cut (ps_if (pt_cmpR op_gt (pe_callB call_len_seq (by rfl) T.b_len (by decide +kernel) (pa_cons (pv 2) pa_nil)) pe_int (nomark _)) (pss_cons (ps_set (i := 3) sc_law_draw.nd rfl (Or.inl rfl) (pe_op op_modN (pe_callTy call_int1 (by rfl) T.b_int (by decide +kernel) (pa_cons (pe_ix ix_list (pv 2) pe_int (fun _ _ => rfl)) pa_nil)) (pv 1)))
      (pss_cons (ps_asg (pe_op op_fdivN (pe_callTy call_int1 (by rfl) T.b_int (by decide +kernel) (pa_cons (pe_ix ix_list (pv 2) pe_int (fun _ _ => rfl)) pa_nil)) (pv 1)) (pg_sub (pv 2) pe_int set_list))
      (pss_cons (ps_if (pt_cmpR op_eq (pe_ix ix_list (pv 2) pe_int (fun _ _ => rfl)) pe_int (nomark _)) (pss_one (ps_expr (pe_bm PySem.F.plainAttrs_list PySem.F.slot_list_pop PySem.F.type_list_pop mt_popAt (pv 2) (pa_cons pe_int pa_nil)))) pss_nil)
      (pss_one (ps_ret (pv 3)))))) pss_nil)
      (pss_cons (ps_set (i := 4) sc_law_draw.nd rfl (Or.inl rfl) (pe_op op_mod (pe_callTy call_int1 (by rfl) T.b_int (by decide +kernel) (pa_cons (pe_op op_mul (pe_op op_add (pe_ix ix_list (pv 0) pe_int (fun _ _ => rfl)) (pe_op op_mul pe_int (pe_ix ix_list (pv 0) pe_int (fun _ _ => rfl)))) pe_int) pa_nil)) pe_int))
      (pss_cons (ps_set (i := 4) sc_law_draw.nd rfl (Or.inl rfl) (pe_op op_mod (pe_callTy call_int1 (by rfl) T.b_int (by decide +kernel) (pa_cons (pe_op op_mul (pv 4) (pe_op op_add (pe_op op_fdiv (pv 4) pe_int) pe_int)) pa_nil)) pe_int))
      (pss_cons (ps_set (i := 4) sc_law_draw.nd rfl (Or.inl rfl) (pe_op op_mod (pe_callTy call_int1 (by rfl) T.b_int (by decide +kernel) (pa_cons (pe_op op_mul (pv 4) (pe_op op_add (pe_op op_fdiv (pv 4) pe_int) pe_int)) pa_nil)) pe_int))
      (pss_one (ps_ret (pe_op op_modN (pe_callTy call_int1 (by rfl) T.b_int (by decide +kernel) (pa_cons (pe_op op_fdiv (pv 4) pe_int) pa_nil)) (pv 1)))))))))), ?_⟩
    walk_at "rd"
    refine rd_ixL hp rfl ?_
    walk_at "rd"
    refine rd_setL hp rfl ?_
    have l1 : (upd H p (.lst [.int s, .int (c + 1), .ref l])) l = some (.lst (cs.map V.int)) := (upd_ne hlp).trans hl
    have k1 : FK [p, l] H (upd H p (.lst [.int s, .int (c + 1), .ref l])) := FK.mutL (by simp) hp
    walk_at "rd"
    refine rd_ixL upd_same rfl ?_
    walk_at "rd"
    refine ⟨fun σ2 H2 => σ2 = [some (.ref p), some (.int m), some (.ref l), none, none] ∧ H2 = upd H p (.lst [.int s, .int (c + 1), .ref l]), ?_, ?_⟩
    · walk_at "rd"
      refine ⟨l, _, rfl, .inl (SqL.of l1), ?_⟩
      walk_at "rd"
      refine rd_ite (fun h1 => ?_) (fun h1 => ?_)
      · obtain ⟨x, r, rfl⟩ : ∃ x r, cs = x :: r := by
          cases cs with
          | nil => cases h1
          | cons x r => exact ⟨x, r, rfl⟩
        walk_at "rd"
        refine rd_ixL l1 at0m ?_
        refine .inl ⟨_, rfl, ?_⟩
        walk_at "rd"
        refine rd_iC (show m ≠ 0 by omega) ?_
        walk_at "rd"
        refine rd_ixL l1 at0m ?_
        refine .inl ⟨_, rfl, ?_⟩
        walk_at "rd"
        refine rd_iC (show m ≠ 0 ∧ m.natAbs < 1073741824 by omega) ?_
        walk_at "rd"
        refine rd_setL l1 ix0m ?_
        have k2 : FK [p, l] H (upd (upd H p (.lst [.int s, .int (c + 1), .ref l])) l (.lst ((.int (x.fdiv m)) :: r.map V.int))) := k1.trans (FK.mutL (by simp) l1)
        have hp2 : (upd (upd H p (.lst [.int s, .int (c + 1), .ref l])) l (.lst ((.int (x.fdiv m)) :: r.map V.int))) p = some (.lst [.int s, .int (c + 1), .ref l]) := (upd_ne hlp.symm).trans upd_same
        have b0 : 0 ≤ x.fmod m := by
          rw [Int.fmod_eq_emod_of_nonneg _ (by omega)]
          exact Int.emod_nonneg _ (by omega)
        have b1 : x.fmod m < m := by
          rw [Int.fmod_eq_emod_of_nonneg _ (by omega)]
          exact Int.emod_lt_of_pos _ (by omega)
        walk_at "rd"
        refine rd_ixL upd_same at0 ?_
        walk_at "rd"
        refine rd_ite (fun h2 => ?_) (fun h2 => ?_)
        · walk_at "rd"
          refine ⟨.inl ⟨rfl, _, SqL.of upd_same⟩, ?_⟩
          walk_at "rd"
          refine ⟨l, _, 0, 0, _, rfl, rfl, upd_same, by decide, by decide, ?_, rfl, ?_⟩
          · unfold seqIndex?
            simp
          · walk_at "rd"
            exact q _ _ b0 b1 ⟨s, c + 1, r, (upd_ne hlp.symm).trans hp2, upd_same, hlp⟩ (k2.trans (FK.mutL (by simp) upd_same))
        · walk_at "rd"
          exact q _ _ b0 b1 ⟨s, c + 1, x.fdiv m :: r, hp2, upd_same, hlp⟩ k2
      · exact ⟨rfl, rfl⟩
    · rintro σ2 H2 ⟨rfl, rfl⟩
      walk_at "rd"
      refine rd_ixL upd_same rfl ?_
      walk_at "rd"
      refine rd_ixL upd_same rfl ?_
      walk_at "rd"
      refine rd_iC (.inl ⟨by decide, by decide⟩) ?_
      walk_at "rd"
      refine rd_iC (.inr ⟨by decide, by decide⟩) ?_
      refine .inl ⟨_, rfl, ?_⟩
      walk_at "rd"
      refine rd_iC (show (0 : Int) < 2147483647 by decide) ?_
      generalize hz : (s + 7919 * (c + 1)) * 48271 % 2147483647 = z2
      have b1 : 0 ≤ z2 := hz ▸ Int.emod_nonneg _ (by decide)
      have b2 : z2 < 2147483647 := hz ▸ Int.emod_lt_of_pos _ (by decide)
      walk_at "rd"
      refine rd_iC (show (0 : Int) < 1009 ∧ (1009 : Int) < 1073741824 by decide) ?_
      walk_at "rd"
      refine rd_iC (.inl ⟨by omega, by omega⟩) ?_
      refine .inl ⟨_, rfl, ?_⟩
      walk_at "rd"
      refine rd_iC (show (0 : Int) < 2147483647 by decide) ?_
      generalize hn : z2 * (z2 / 1009 + 69621) % 2147483647 = n1
      have b3 : 0 ≤ n1 := hn ▸ Int.emod_nonneg _ (by decide)
      have b4 : n1 < 2147483647 := hn ▸ Int.emod_lt_of_pos _ (by decide)
      walk_at "rd"
      refine rd_iC (show (0 : Int) < 2003 ∧ (2003 : Int) < 1073741824 by decide) ?_
      walk_at "rd"
      refine rd_iC (.inl ⟨by omega, by omega⟩) ?_
      refine .inl ⟨_, rfl, ?_⟩
      walk_at "rd"
      refine rd_iC (show (0 : Int) < 2147483399 by decide) ?_
      walk_at "rd"
      refine rd_iC (show (0 : Int) < 16 ∧ (16 : Int) < 1073741824 by decide) ?_
      refine .inl ⟨_, rfl, ?_⟩
      walk_at "rd"
      refine rd_iC (show m ≠ 0 by omega) ?_
      refine q _ _ ?_ ?_ ⟨s, c + 1, cs, upd_same, l1, hlp⟩ k1
      · rw [Int.fmod_eq_emod_of_nonneg _ (by omega)]
        exact Int.emod_nonneg _ (by omega)
      · rw [Int.fmod_eq_emod_of_nonneg _ (by omega)]
        exact Int.emod_lt_of_pos _ (by omega)
end
end Mw

/-! R5 -/
namespace Mw
open PySem L2
def spNumber : Sp := fun vs H Q _ => ∃ (p l : Addr), vs = [.ref p] ∧ PoolAt H p l ∧ ∀ (r : Int) H', r.natAbs < 10 ^ 20 + 1 → PoolAt H' p l → FK [p, l] H H' → Q (.int r) H'
/-- a drawn parcel, nested less deep than n -/
def spParcel (CP : Addr → Prop) (n : Nat) : Sp := fun vs H Q _ => ∃ (p l : Addr) (m : Nat), m < n ∧ vs = [.ref p, .int (m : Int)] ∧ PoolAt H p l ∧ ∀ d v H', isPc m d = true → (byD d).length ≤ bB m → Dt CP [p, l] H' d v → PoolAt H' p l → FK [p, l] H H' → Q v H'
section
variable {P : Program} {w : World} {K : PySem.W.Frag} {mg : Str → Option Value} {base : Heap}
local macro_rules | `(tactic| walk_at "rd") => `(tactic| (repeat (first
  | ((with_reducible refine' rd_var ?h0 ?_); (case h0 => rfl))
  | with_reducible refine rd_c ?_
  | with_reducible refine rd_op ?_
  | with_reducible refine rd_nil ?_
  | with_reducible refine rd_cons ?_
  | with_reducible refine rd_tup ?_
  | with_reducible refine rd_lst ?_
  | with_reducible refine rd_ifs ?_
  | with_reducible refine rd_seq ?_
  | with_reducible refine rd_next ?_
  | with_reducible refine rd_ret ?_
  | with_reducible refine rd_asg ?_
  | ((with_reducible refine' rd_gset ?hs ?_); (case hs => ((simp only [L2.start, List.map_cons, List.map_nil, List.length_cons, List.length_nil, List.cons_append, List.nil_append, List.set_cons_zero, List.set_cons_succ, Nat.reduceAdd, Nat.reduceSub, Nat.zero_add, List.reduceReplicate]); rfl)))
  | with_reducible refine rd_drop ?_
  | with_reducible refine rd_test ?_
  | with_reducible refine rd_B ?_
  | with_reducible refine rd_bl ?_
  | with_reducible refine rd_blP ?_
  | with_reducible refine rd_andV ?_
  | with_reducible refine rd_orV ?_
  | with_reducible refine rd_notV ?_
  | with_reducible refine rd_and ?_
  | with_reducible refine rd_or ?_
  | with_reducible refine rd_not ?_
  | with_reducible refine rd_chain ?_
  | with_reducible refine rd_dput ?_
  | with_reducible refine rd_dget ?_
  | with_reducible refine rd_cb ?_
  | with_reducible refine rd_call ?_
  | with_reducible refine rd_un ?_
  | with_reducible refine rd_sl ?_
  | with_reducible refine rd_nopart ?_
  | with_reducible refine rd_part ?_
  | with_reducible refine rd_intP ?_
  | with_reducible refine rd_rU ?_
  | with_reducible refine rd_fld ?_
  | with_reducible refine rd_eqI ?_
  | with_reducible refine rd_neI ?_
  | with_reducible refine rd_mko ?_
  | with_reducible refine rd_bm ?_
  | with_reducible refine rd_gsub ?_
  | with_reducible refine rd_i0 ?_)))
end
end Mw

/-! R5m -/
/-! Texts of signs. -/
namespace Mw
open PySem L2 TL
def strOf (cs : List Nat) : Str := ⟨cs.toArray⟩
theorem sgn_of (cs : List Nat) : sgn (strOf cs) = cs.map fun c : Nat => (c : Int) := by
  unfold sgn strOf
  simp
theorem len_of (cs : List Nat) : (strOf cs).length = cs.length := by
  show cs.toArray.size = cs.length
  simp
theorem joinL_nil : ∀ ls : List (List Nat), joinL [] ls = ls.flatten
  | [] => rfl
  | [p] => by simp [joinL]
  | p :: q :: r => by
    show p ++ ([] ++ joinL [] (q :: r)) = _
    rw [joinL_nil (q :: r)]
    simp
theorem flat_one : ∀ cs : List Nat, (cs.map fun c => [c]).flatten = cs
  | [] => rfl
  | c :: cs => by
    rw [List.map_cons, List.flatten_cons, flat_one cs]
    rfl
theorem join_one (cs : List Nat) : Txt.join "" (cs.map fun c => (⟨#[c]⟩ : Str)) = strOf cs := by
  rw [join_eq]
  have h := tl_join "" (cs.map fun c => (⟨#[c]⟩ : Str))
  rw [show tl ("" : Str) = [] from rfl, joinL_nil, List.map_map] at h
  rw [show (tl ∘ fun c => (⟨#[c]⟩ : Str)) = fun c : Nat => [c] from rfl, flat_one] at h
  have e := mk_tl (Str.join "" (cs.map fun c => (⟨#[c]⟩ : Str)))
  rw [h] at e
  exact e.symm
theorem join_ok {cs : List Nat} (h : 2 * cs.length ≤ 1000000) : (((cs.map fun c => (⟨#[c]⟩ : Str)).map (·.length)).sum + (cs.map fun c => (⟨#[c]⟩ : Str)).length * ("" : Str).length ≤ 16777216) := by
  have e : (((cs.map fun c => (⟨#[c]⟩ : Str)).map (·.length)).sum = cs.length) := by
    clear h
    induction cs with
    | nil => rfl
    | cons c cs ih =>
      rw [List.map_cons, List.map_cons, List.sum_cons, ih, List.length_cons]
      show 1 + cs.length = cs.length + 1
      omega
  rw [e]
  show cs.length + _ * 0 ≤ _
  omega
end Mw

/-! R6 -/
namespace Mw
open PySem L2
/-- what the comprehensions of parcels gather -/
def RowI (CP : Addr → Prop) (p l : Addr) (m b : Nat) (H0 : Hp) (D : Addr) (i : Nat) (H1 : Hp) : Prop := ∃ ds vs, ds.length = i ∧ H1 D = some (.lst vs) ∧ DtAll CP [p, l] H1 ds vs ∧ (∀ d ∈ ds, isPc m d = true ∧ (byD d).length ≤ b) ∧ PoolAt H1 p l ∧ FK [p, l] H0 H1
theorem RowI.start {CP : Addr → Prop} {p l D : Addr} {m b : Nat} {H0 : Hp} (hh : PoolAt H0 p l) (hD : H0 D = none) : RowI CP p l m b H0 D 0 (upd H0 D (.lst [])) :=
  ⟨[], [], rfl, upd_same, dtAll_nil, fun d hd => absurd hd (by simp), hh.new hD, FK.new hD⟩
theorem RowI.more {CP : Addr → Prop} {p l D : Addr} {m b i : Nat} {H0 H1 H2 : Hp} (hD : H0 D = none) (hout : D ∉ [p, l]) {ds : List PyData} {vs : List V} {d : PyData} {v : V} (e : ds.length = i) (ha : H1 D = some (.lst vs)) (hds : DtAll CP [p, l] H1 ds vs) (hg : ∀ d ∈ ds, isPc m d = true ∧ (byD d).length ≤ b) (k1 : FK [p, l] H0 H1)
    (hd : Dt CP [p, l] H2 d v) (hp : isPc m d = true) (hb : (byD d).length ≤ b) (hh : PoolAt H2 p l) (k : FK [p, l] H1 H2) : RowI CP p l m b H0 D (i + 1) (upd H2 D (.lst (vs ++ [v]))) := by
  have ha2 := k.at hout ha
  have hpl : plainAll (ds ++ [d]) = true := plainAll_of fun c hc => by
    rcases List.mem_append.mp hc with h | h
    · exact isPc_plain c (hg c h).1
    · rw [show c = d by simpa using h]
      exact isPc_plain d hp
  refine ⟨ds ++ [d], vs ++ [v], by simp [e], upd_same, DtAll.plain (M := [p, l]) (KT.mut ha2 fun _ z => by cases z) _ _ hpl ((hds.k k).snoc hd), fun c hc => ?_, hh.upd hout, (k1.trans k).own hD ha2⟩
  rcases List.mem_append.mp hc with h | h
  · exact hg c h
  · rw [show c = d by simpa using h]
    exact ⟨hp, hb⟩
theorem isPc_tup {m : Nat} {ds : List PyData} (h : ∀ d ∈ ds, isPc m d = true) : isPc (m + 1) (.tuple ds) = true := by
  simp only [isPc, Bool.and_eq_true, decide_eq_true_eq]
  exact ⟨by omega, isPcAll_iff.mpr h⟩
theorem sign7 {j : Nat} (h : j < 7) : ∃ c : Nat, (" ~a0Zb'" : Str).cps.toList[j]? = some c ∧ isSign (c : Int) = true := by
  match j, h with
  | 0, _ => exact ⟨32, rfl, rfl⟩
  | 1, _ => exact ⟨126, rfl, rfl⟩
  | 2, _ => exact ⟨97, rfl, rfl⟩
  | 3, _ => exact ⟨48, rfl, rfl⟩
  | 4, _ => exact ⟨90, rfl, rfl⟩
  | 5, _ => exact ⟨98, rfl, rfl⟩
  | 6, _ => exact ⟨39, rfl, rfl⟩
theorem rd_join {r : V → List V → Hp → VK → Prop} {to te : TE} {σ : L2.St} {H : Hp} {Q : VK} (h : to σ H fun x H1 => (∃ a, x = .str a) ∧ te σ H1 fun y H2 => r x [y] H2 Q) : tM1 r to te σ H Q := h
section
variable {P : Program} {w : World} {K : PySem.W.Frag} {mg : Str → Option Value} {base : Heap}
local macro_rules | `(tactic| walk_at "rd") => `(tactic| (repeat (first
  | ((with_reducible refine' rd_var ?h0 ?_); (case h0 => rfl))
  | with_reducible refine rd_c ?_
  | with_reducible refine rd_op ?_
  | with_reducible refine rd_nil ?_
  | with_reducible refine rd_cons ?_
  | with_reducible refine rd_tup ?_
  | with_reducible refine rd_lst ?_
  | with_reducible refine rd_ifs ?_
  | with_reducible refine rd_seq ?_
  | with_reducible refine rd_next ?_
  | with_reducible refine rd_ret ?_
  | with_reducible refine rd_asg ?_
  | ((with_reducible refine' rd_gset ?hs ?_); (case hs => ((simp only [L2.start, List.map_cons, List.map_nil, List.length_cons, List.length_nil, List.cons_append, List.nil_append, List.set_cons_zero, List.set_cons_succ, Nat.reduceAdd, Nat.reduceSub, Nat.zero_add, List.reduceReplicate]); rfl)))
  | with_reducible refine rd_drop ?_
  | with_reducible refine rd_test ?_
  | with_reducible refine rd_B ?_
  | with_reducible refine rd_bl ?_
  | with_reducible refine rd_blP ?_
  | with_reducible refine rd_andV ?_
  | with_reducible refine rd_orV ?_
  | with_reducible refine rd_notV ?_
  | with_reducible refine rd_and ?_
  | with_reducible refine rd_or ?_
  | with_reducible refine rd_not ?_
  | with_reducible refine rd_chain ?_
  | with_reducible refine rd_dput ?_
  | with_reducible refine rd_dget ?_
  | with_reducible refine rd_cb ?_
  | with_reducible refine rd_call ?_
  | with_reducible refine rd_un ?_
  | with_reducible refine rd_sl ?_
  | with_reducible refine rd_nopart ?_
  | with_reducible refine rd_part ?_
  | with_reducible refine rd_intP ?_
  | with_reducible refine rd_rU ?_
  | with_reducible refine rd_fld ?_
  | with_reducible refine rd_eqI ?_
  | with_reducible refine rd_neI ?_
  | with_reducible refine rd_mko ?_
  | with_reducible refine rd_bm ?_
  | with_reducible refine rd_gsub ?_
  | with_reducible refine rd_i0 ?_)))
end
end Mw

/-! R7m -/
/-! Rows: what is read. -/
namespace Mw
open PySem L2
/-- how many bytes stand at the front that are not the last of a whole -/
def lead : List Int → Nat
  | [] => 0
  | b :: r => if 128 ≤ b then lead r + 1 else 0
/-- what bytes tell as figures, the lowest first -/
def val : List Int → Int
  | [] => 0
  | b :: r => b % 128 + 128 * val r
def whR (row : List Int) (h : Nat) : Option (Int × Nat) :=
  match row[h + lead (row.drop h)]? with
  | none => none
  | some c => if c = 0 ∧ 0 < lead (row.drop h) then none else some (val ((row.drop h).take (lead (row.drop h) + 1)), h + lead (row.drop h) + 1)
theorem lead_ge {row : List Int} {h : Nat} {b : Int} (e : row[h]? = some b) (g : 128 ≤ b) : lead (row.drop h) = lead (row.drop (h + 1)) + 1 := by
  have hl := (List.getElem?_eq_some_iff.mp e).1
  rw [List.drop_eq_getElem_cons hl, show row[h] = b from (List.getElem?_eq_some_iff.mp e).2]
  show (if 128 ≤ b then _ else _) = _
  rw [if_pos g]
theorem lead_lt {row : List Int} {h : Nat} {b : Int} (e : row[h]? = some b) (g : ¬ 128 ≤ b) : lead (row.drop h) = 0 := by
  have hl := (List.getElem?_eq_some_iff.mp e).1
  rw [List.drop_eq_getElem_cons hl, show row[h] = b from (List.getElem?_eq_some_iff.mp e).2]
  show (if 128 ≤ b then _ else _) = _
  rw [if_neg g]
theorem lead_end {row : List Int} {h : Nat} (e : row.length ≤ h) : lead (row.drop h) = 0 := by
  rw [List.drop_of_length_le e]
  rfl
theorem lead_le : ∀ r : List Int, lead r ≤ r.length
  | [] => Nat.le_refl _
  | b :: r => by
    have := lead_le r
    show (if 128 ≤ b then lead r + 1 else 0) ≤ r.length + 1
    split <;> omega
theorem whR_le {row : List Int} {h e : Nat} {n : Int} (g : whR row h = some (n, e)) : h < e ∧ e ≤ row.length := by
  unfold whR at g
  split at g
  · cases g
  · rename_i c hc
    have := (List.getElem?_eq_some_iff.mp hc).1
    split at g
    · cases g
    · injection g with g
      injection g with g1 g2
      omega
theorem val_nn : ∀ r : List Int, 0 ≤ val r
  | [] => Int.le_refl _
  | b :: r => by
    have := val_nn r
    have := Int.emod_nonneg b (show (128 : Int) ≠ 0 by decide)
    show 0 ≤ b % 128 + 128 * val r
    omega
theorem whR_nn {row : List Int} {h e : Nat} {n : Int} (g : whR row h = some (n, e)) : 0 ≤ n := by
  unfold whR at g
  split at g
  · cases g
  · split at g
    · cases g
    · injection g with g
      injection g with g1 g2
      rw [← g1]
      exact val_nn _
/-- the last of them, one more at the front -/
theorem val_rev (xs : List Int) (i : Nat) (b : Int) (e : xs.reverse[i]? = some b) : val (xs.drop (xs.length - (i + 1))) = val (xs.drop (xs.length - i)) * 128 + b % 128 := by
  have hl : i < xs.length := by
    have := (List.getElem?_eq_some_iff.mp e).1
    simpa using this
  have e2 : xs[xs.length - (i + 1)]? = some b := by
    rw [List.getElem?_reverse hl] at e
    rw [show xs.length - (i + 1) = xs.length - 1 - i by omega]
    exact e
  rw [List.drop_eq_getElem_cons (by omega), show xs[xs.length - (i + 1)] = b from (List.getElem?_eq_some_iff.mp e2).2]
  show b % 128 + 128 * val (xs.drop (xs.length - (i + 1) + 1)) = _
  rw [show xs.length - (i + 1) + 1 = xs.length - i by omega]
  omega
inductive Rs (α : Type) where
  | bad (e : Nat)
  | ok (a : α) (e : Nat)
def consR {α : Type} (a : α) : Rs (List α) → Rs (List α)
  | .bad e => .bad e
  | .ok l e => .ok (a :: l) e
def strR (row : List Int) : Nat → Nat → Rs (List Nat)
  | 0, h => .ok [] h
  | m + 1, h => match row[h]? with
    | none => .bad row.length
    | some b => if isSign b = true then consR b.toNat (strR row m (h + 1)) else .bad h
inductive Its (R : Nat → Rs PyData → Prop) : Nat → Nat → Rs (List PyData) → Prop
  | nil (h : Nat) : Its R 0 h (.ok [] h)
  | bad {m h e : Nat} : R h (.bad e) → Its R (m + 1) h (.bad e)
  | one {m h h2 : Nat} {d : PyData} {r : Rs (List PyData)} : R h (.ok d h2) → Its R m h2 r → Its R (m + 1) h (consR d r)
def strD : Rs (List Nat) → Rs PyData
  | .bad e => .bad e
  | .ok cs e => .ok (.str (strOf cs)) e
def tupD : Rs (List PyData) → Rs PyData
  | .bad e => .bad e
  | .ok ds e => .ok (.tuple ds) e
/-- what is read at a place, R within the tuple (none: no tuple may stand there) -/
def RdB (row : List Int) (R : Option (Nat → Rs PyData → Prop)) (h : Nat) (res : Rs PyData) : Prop :=
  match row[h]? with
  | none => res = .bad row.length
  | some b => if 6 < b ∨ (b = 6 ∧ R.isNone = true) then res = .bad h
    else if b < 3 then res = .ok (if b = 0 then .none else .bool (decide (b = 2))) (h + 1)
    else match whR row (h + 1) with
    | none => res = .bad (h + 1)
    | some (n, e) => if b < 5 then res = .ok (.int (if b = 3 then n else -1 - n)) e
      else if b = 5 then (if n = 0 ∨ 20 < n then res = .bad (h + 1) else res = strD (strR row n.toNat e))
      else ∃ R' r, R = some R' ∧ Its R' n.toNat e r ∧ res = tupD r
def Rd (row : List Int) : Nat → Nat → Rs PyData → Prop
  | 0 => RdB row none
  | n + 1 => RdB row (some (Rd row n))
theorem its_det {R : Nat → Rs PyData → Prop} (hR : ∀ h r1 r2, R h r1 → R h r2 → r1 = r2) : ∀ {m h : Nat} {r1 r2 : Rs (List PyData)}, Its R m h r1 → Its R m h r2 → r1 = r2 := by
  intro m h r1 r2 a
  induction a generalizing r2 with
  | nil h =>
    intro b
    cases b
    rfl
  | bad x =>
    intro b
    cases b with
    | bad y => exact congrArg Rs.bad (Rs.bad.inj (hR _ _ _ x y))
    | one y _ =>
      have := hR _ _ _ x y
      cases this
  | one x _ ih =>
    intro b
    cases b with
    | bad y =>
      have := hR _ _ _ x y
      cases this
    | one y z =>
      have e := hR _ _ _ x y
      injection e with e1 e2
      subst e1 e2
      rw [ih z]
theorem rdB_det {row : List Int} {R : Option (Nat → Rs PyData → Prop)} (hR : ∀ R', R = some R' → ∀ h r1 r2, R' h r1 → R' h r2 → r1 = r2) {h : Nat} {r1 r2 : Rs PyData} (a : RdB row R h r1) (b : RdB row R h r2) : r1 = r2 := by
  unfold RdB at a b
  split at a
  · rename_i e
    simp only [e] at b
    rw [a, b]
  · rename_i c e
    simp only [e] at b
    by_cases c1 : 6 < c ∨ (c = 6 ∧ R.isNone = true)
    · rw [if_pos c1] at a b
      rw [a, b]
    · rw [if_neg c1] at a b
      by_cases c2 : c < 3
      · rw [if_pos c2] at a b
        rw [a, b]
      · rw [if_neg c2] at a b
        split at a
        · rename_i e2
          simp only [e2] at b
          rw [a, b]
        · rename_i n e' e2
          simp only [e2] at b
          by_cases c3 : c < 5
          · rw [if_pos c3] at a b
            rw [a, b]
          · rw [if_neg c3] at a b
            by_cases c4 : c = 5
            · rw [if_pos c4] at a b
              by_cases c5 : n = 0 ∨ 20 < n
              · rw [if_pos c5] at a b
                rw [a, b]
              · rw [if_neg c5] at a b
                rw [a, b]
            · rw [if_neg c4] at a b
              obtain ⟨R1, s1, x1, y1, z1⟩ := a
              obtain ⟨R2, s2, x2, y2, z2⟩ := b
              rw [x1] at x2
              cases x2
              rw [z1, z2, its_det (hR _ x1) y1 y2]
theorem rd_det {row : List Int} : ∀ {n h : Nat} {r1 r2 : Rs PyData}, Rd row n h r1 → Rd row n h r2 → r1 = r2
  | 0, h, r1, r2, a, b => rdB_det (R := none) (fun _ z => by cases z) a b
  | n + 1, h, r1, r2, a, b => rdB_det (R := some (Rd row n)) (fun R' z h r1 r2 x y => by
    cases z
    exact rd_det x y) a b
theorem strR_le {row : List Int} : ∀ {m h e : Nat} {cs : List Nat}, h ≤ row.length → strR row m h = .ok cs e → h ≤ e ∧ e ≤ row.length
  | 0, h, e, cs, l, g => by
    unfold strR at g
    injection g with g1 g2
    omega
  | m + 1, h, e, cs, l, g => by
    unfold strR at g
    split at g
    · cases g
    · rename_i b hb
      have := (List.getElem?_eq_some_iff.mp hb).1
      split at g
      · cases k : strR row m (h + 1) with
        | bad e2 =>
          rw [k] at g
          cases g
        | ok cs2 e2 =>
          rw [k] at g
          injection g with g1 g2
          subst g2
          have := strR_le (by omega) k
          omega
      · cases g
theorem its_le {row : List Int} {R : Nat → Rs PyData → Prop} (hR : ∀ h d e, R h (.ok d e) → h < e ∧ e ≤ row.length) {m h : Nat} {r : Rs (List PyData)} (a : Its R m h r) : ∀ ds e, r = .ok ds e → h ≤ row.length → h ≤ e ∧ e ≤ row.length := by
  induction a with
  | nil h =>
    intro ds e z l
    injection z with z1 z2
    omega
  | bad x =>
    intro ds e z
    cases z
  | @one m h h2 d r x y ih =>
    intro ds e z l
    have h1 := hR _ _ _ x
    cases r with
    | bad e2 => cases z
    | ok l2 e2 =>
      injection z with z1 z2
      subst z2
      have := ih _ _ rfl h1.2
      omega
theorem rdB_le {row : List Int} {R : Option (Nat → Rs PyData → Prop)} (hR : ∀ R', R = some R' → ∀ h d e, R' h (.ok d e) → h < e ∧ e ≤ row.length) {h e : Nat} {d : PyData} (a : RdB row R h (.ok d e)) : h < e ∧ e ≤ row.length := by
  unfold RdB at a
  split at a
  · cases a
  · rename_i c hc
    have hl := (List.getElem?_eq_some_iff.mp hc).1
    split at a
    · cases a
    · split at a
      · injection a with a1 a2
        omega
      · split at a
        · cases a
        · rename_i n e' hw
          have := whR_le hw
          split at a
          · injection a with a1 a2
            omega
          · split at a
            · split at a
              · cases a
              · cases k : strR row n.toNat e' with
                | bad e2 =>
                  rw [k] at a
                  cases a
                | ok cs e2 =>
                  rw [k] at a
                  injection a with a1 a2
                  subst a2
                  have := strR_le (by omega) k
                  omega
            · obtain ⟨R', r, x, y, z⟩ := a
              cases r with
              | bad e2 => cases z
              | ok ds e2 =>
                injection z with z1 z2
                subst z2
                have := its_le (hR _ x) y _ _ rfl (by omega)
                omega
theorem rd_le {row : List Int} : ∀ {n h e : Nat} {d : PyData}, Rd row n h (.ok d e) → h < e ∧ e ≤ row.length
  | 0, h, e, d, a => rdB_le (R := none) (fun _ z => by cases z) a
  | n + 1, h, e, d, a => rdB_le (R := some (Rd row n)) (fun R' z h d e x => by
    cases z
    exact rd_le x) a
/-- so many read one behind the other -/
inductive Run (R : Nat → Rs PyData → Prop) (h0 : Nat) : List PyData → Nat → Prop
  | nil : Run R h0 [] h0
  | snoc {ds : List PyData} {h h2 : Nat} {d : PyData} : Run R h0 ds h → R h (.ok d h2) → Run R h0 (ds ++ [d]) h2
def appR {α : Type} (l : List α) : Rs (List α) → Rs (List α)
  | .bad e => .bad e
  | .ok m e => .ok (l ++ m) e
theorem run_its {R : Nat → Rs PyData → Prop} {h0 : Nat} {ds : List PyData} {h : Nat} (a : Run R h0 ds h) : ∀ {k : Nat} {r : Rs (List PyData)}, Its R k h r → Its R (ds.length + k) h0 (appR ds r) := by
  induction a with
  | nil =>
    intro k r b
    rw [List.length_nil, Nat.zero_add]
    cases r <;> exact b
  | @snoc ds h h2 d x y ih =>
    intro k r b
    have := ih (Its.one y b)
    rw [List.length_append, List.length_singleton, show ds.length + 1 + k = ds.length + (k + 1) by omega]
    cases r with
    | bad e => exact this
    | ok l e =>
      show Its R _ h0 (.ok (ds ++ [d] ++ l) e)
      rw [List.append_assoc]
      exact this
theorem run_end {R : Nat → Rs PyData → Prop} {h0 : Nat} {ds : List PyData} {h : Nat} (a : Run R h0 ds h) : Its R ds.length h0 (.ok ds h) := by
  have := run_its a (Its.nil h)
  rw [Nat.add_zero] at this
  rw [show appR ds (.ok [] h) = .ok (ds ++ []) h from rfl, List.append_nil] at this
  exact this
theorem run_bad {R : Nat → Rs PyData → Prop} {h0 : Nat} {ds : List PyData} {h m e : Nat} (a : Run R h0 ds h) (l : ds.length < m) (b : R h (.bad e)) : Its R m h0 (.bad e) := by
  have := run_its a (Its.bad (m := m - ds.length - 1) b)
  rw [show ds.length + (m - ds.length - 1 + 1) = m by omega] at this
  exact this
end Mw

/-! R7 -/
namespace Mw
open PySem L2
theorem rd_rng2' {ta : TA} {σ : L2.St} {H : Hp} {R : It → Hp → Prop} (h : ta σ H fun vs H1 => ∃ i j : Int, vs = [.int i, .int j] ∧ (-(2 ^ 62) ≤ i ∧ i < 2 ^ 62 ∧ -(2 ^ 62) ≤ j ∧ j < 2 ^ 62) ∧ R (Itr i (j - i).toNat) H1) : iRng2 ta σ H R := h
/-- a row, at a -/
structure RowAt (H : Hp) (a : Addr) (row : List Int) : Prop where
  at_ : H a = some (.tup (row.map V.int))
  by_ : ∀ b ∈ row, 0 ≤ b ∧ b < 256
  le : row.length ≤ 900000
theorem RowAt.same {H H' : Hp} {a : Addr} {row : List Int} (h : RowAt H a row) (s : Same H H') : RowAt H' a row := ⟨s _ _ h.1, h.2, h.3⟩
theorem RowAt.kt {H H' : Hp} {a : Addr} {row : List Int} (h : RowAt H a row) (s : KT H H') : RowAt H' a row := ⟨s _ _ h.1, h.2, h.3⟩
theorem row_get {row : List Int} {h : Nat} (l : h < row.length) : ∃ b, row[h]? = some b ∧ (row.map V.int)[h]? = some (V.int b) := by
  have e : row[h]? = some row[h] := by simp [l]
  exact ⟨_, e, by rw [List.getElem?_map, e]; rfl⟩
theorem cut_all {xs : List V} {lo hi : Option Int} (h : HT.sIx xs.length 0 lo = 0 ∧ HT.sIx xs.length xs.length hi = xs.length) : cutV xs lo hi = xs := by
  unfold cutV
  rw [h.1, h.2, List.drop_zero, Nat.sub_zero, List.take_length]
theorem rd_cutA {K : PySem.W.Frag} {H : Hp} {Q : VK} {a : Addr} {xs : List V} {lo hi : Option Int} (h : H a = some (.tup xs)) (q : ∀ c H', Same H H' → H' c = some (.tup (cutV xs lo hi)) → Q (.ref c) H') : rSlA K (.ref a) lo hi H Q := by
  refine ⟨a, xs, rfl, SqT.of h, fun e => ?_, fun _ c nc => q c _ (same_new nc) upd_same⟩
  exact q a H (Same.refl H) (by rw [cut_all e]; exact h)
theorem cutN {α : Type} (xs : List α) (i j : Nat) (hi : i ≤ xs.length) (hj : j ≤ xs.length) (f : α → V) : cutV (xs.map f) (some (i : Int)) (some (j : Int)) = ((xs.drop i).take (j - i)).map f := by
  unfold cutV
  rw [HT.sIx_nat, HT.sIx_nat, List.length_map, Nat.min_eq_left hi, Nat.min_eq_left hj, ← List.map_drop, ← List.map_take]
theorem sign_at {c : Int} (h : isSign c = true) : SC_SIGNS.cps.toList[(c - 32).toNat]? = some c.toNat := by
  have key : ∀ n : Nat, n < 127 → isSign (n : Int) = true → SC_SIGNS.cps.toList[((n : Int) - 32).toNat]? = some n := by decide +kernel
  have hb : 0 ≤ c ∧ c < 127 := by
    unfold isSign at h
    simp only [Bool.and_eq_true, decide_eq_true_eq] at h
    omega
  have e : c = (c.toNat : Int) := by omega
  rw [e] at h
  have := key c.toNat (by omega) h
  rw [← e] at this
  exact this
mutual
theorem rdB_plain {row : List Int} {R : Option (Nat → Rs PyData → Prop)} (hR : ∀ R', R = some R' → ∀ h d e, R' h (.ok d e) → plainD d = true) {h e : Nat} {d : PyData} (a : RdB row R h (.ok d e)) : plainD d = true := by
  unfold RdB at a
  split at a
  · cases a
  · rename_i c hc
    split at a
    · cases a
    · split at a
      · injection a with a1 a2
        rw [a1]
        split <;> rfl
      · split at a
        · cases a
        · split at a
          · injection a with a1 a2
            rw [a1]
            rfl
          · split at a
            · split at a
              · cases a
              · rename_i n e' _ _ _ _
                cases k : strR row n.toNat e' with
                | bad e2 =>
                  rw [k] at a
                  cases a
                | ok cs e2 =>
                  rw [k] at a
                  injection a with a1 a2
                  rw [a1]
                  rfl
            · obtain ⟨R', r, x, y, z⟩ := a
              cases r with
              | bad e2 => cases z
              | ok ds e2 =>
                injection z with z1 z2
                rw [z1]
                exact plainAll_of fun d hd => its_plain (hR _ x) y ds e2 rfl d hd
theorem its_plain {R : Nat → Rs PyData → Prop} (hR : ∀ h d e, R h (.ok d e) → plainD d = true) {m h : Nat} {r : Rs (List PyData)} (a : Its R m h r) : ∀ ds e, r = .ok ds e → ∀ d ∈ ds, plainD d = true := by
  induction a with
  | nil h =>
    intro ds e z d hd
    injection z with z1 z2
    rw [← z1] at hd
    cases hd
  | bad x =>
    intro ds e z
    cases z
  | @one m h h2 d r x y ih =>
    intro ds e z d1 hd
    cases r with
    | bad e2 => cases z
    | ok l2 e2 =>
      injection z with z1 z2
      rw [← z1] at hd
      rcases List.mem_cons.mp hd with h | h
      · rw [h]
        exact hR _ _ _ x
      · exact ih _ _ rfl d1 h
end
theorem rd_plain {row : List Int} : ∀ {n h e : Nat} {d : PyData}, Rd row n h (.ok d e) → plainD d = true
  | 0, h, e, d, a => rdB_plain (R := none) (fun _ z => by cases z) a
  | n + 1, h, e, d, a => rdB_plain (R := some (Rd row n)) (fun R' z h d e x => by
    cases z
    exact rd_plain x) a
def isRowD : PyData → Bool
  | .tuple ds => (ds.map isByte).all id
  | _ => false
def lenD : PyData → Nat
  | .tuple ds => ds.length
  | _ => 0
def spIsRow (CP : Addr → Prop) : Sp := fun vs H Q _ => ∃ M d x, vs = [x] ∧ Dt CP M H d x ∧ lenD d ≤ 900000 ∧ ∀ H', Same H H' → Q (.bl (isRowD d)) H'
def spCkRow (CP : Addr → Prop) (C : Addr) : Sp := fun vs H Q E => ∃ M d x, vs = [x] ∧ Dt CP M H d x ∧ lenD d ≤ 900000 ∧ ∀ H', Same H H' → (isRowD d = true → Q .non H') ∧ (isRowD d = false → E (.ref C) none H')
def spThere (C : Addr) : Sp := fun vs H Q E => ∃ (a : Addr) (row : List Int) (h : Nat), vs = [.ref a, .int (h : Int)] ∧ RowAt H a row ∧ (h < row.length → Q .non H) ∧ (row.length ≤ h → Raised C (.int (row.length : Nat)) H E)
def spSign : Sp := fun vs H Q _ => ∃ c : Int, vs = [.int c] ∧ Q (.bl (isSign c)) H
def spWholeAt (C : Addr) : Sp := fun vs H Q E => ∃ (a : Addr) (row : List Int) (h : Nat), vs = [.ref a, .int (h : Int)] ∧ RowAt H a row ∧ h ≤ row.length ∧
  (∀ n e, whR row h = some (n, e) → ∀ t H', Same H H' → H' t = some (.tup [.int n, .int (e : Nat)]) → Q (.ref t) H') ∧ (whR row h = none → Raised C (.int (h : Int)) H E)
def spStringAt (C : Addr) : Sp := fun vs H Q E => ∃ (a : Addr) (row : List Int) (h m : Nat), vs = [.ref a, .int (h : Int), .int (m : Int)] ∧ RowAt H a row ∧ h ≤ row.length ∧ m ≤ 20 ∧
  (∀ cs e, strR row m h = .ok cs e → ∀ t H', Same H H' → H' t = some (.tup [.str (strOf cs), .int (e : Nat)]) → Q (.ref t) H') ∧ (∀ e, strR row m h = .bad e → ∀ H', Same H H' → Raised C (.int (e : Nat)) H' E)
section
variable {P : Program} {w : World} {K : PySem.W.Frag} {mg : Str → Option Value} {base : Heap}
local macro_rules | `(tactic| walk_at "rd") => `(tactic| (repeat (first
  | ((with_reducible refine' rd_var ?h0 ?_); (case h0 => rfl))
  | with_reducible refine rd_c ?_
  | with_reducible refine rd_op ?_
  | with_reducible refine rd_nil ?_
  | with_reducible refine rd_cons ?_
  | with_reducible refine rd_tup ?_
  | with_reducible refine rd_lst ?_
  | with_reducible refine rd_ifs ?_
  | with_reducible refine rd_seq ?_
  | with_reducible refine rd_next ?_
  | with_reducible refine rd_ret ?_
  | with_reducible refine rd_asg ?_
  | ((with_reducible refine' rd_gset ?hs ?_); (case hs => ((simp only [L2.start, List.map_cons, List.map_nil, List.length_cons, List.length_nil, List.cons_append, List.nil_append, List.set_cons_zero, List.set_cons_succ, Nat.reduceAdd, Nat.reduceSub, Nat.zero_add, List.reduceReplicate]); rfl)))
  | with_reducible refine rd_drop ?_
  | with_reducible refine rd_test ?_
  | with_reducible refine rd_B ?_
  | with_reducible refine rd_bl ?_
  | with_reducible refine rd_blP ?_
  | with_reducible refine rd_andV ?_
  | with_reducible refine rd_orV ?_
  | with_reducible refine rd_notV ?_
  | with_reducible refine rd_and ?_
  | with_reducible refine rd_or ?_
  | with_reducible refine rd_not ?_
  | with_reducible refine rd_chain ?_
  | with_reducible refine rd_dput ?_
  | with_reducible refine rd_dget ?_
  | with_reducible refine rd_cb ?_
  | with_reducible refine rd_call ?_
  | with_reducible refine rd_un ?_
  | with_reducible refine rd_sl ?_
  | with_reducible refine rd_nopart ?_
  | with_reducible refine rd_part ?_
  | with_reducible refine rd_intP ?_
  | with_reducible refine rd_rU ?_
  | with_reducible refine rd_fld ?_
  | with_reducible refine rd_eqI ?_
  | with_reducible refine rd_neI ?_
  | with_reducible refine rd_mko ?_
  | with_reducible refine rd_bm ?_
  | with_reducible refine rd_gsub ?_
  | with_reducible refine rd_i0 ?_)))
theorem ok_is_row (T : Tx K mg) (B : Bk K mg T) : FnOk P w K mg base CX0 5 B.is_row.f B.is_row.fd ["thing"] (spIsRow T.CP) := by
  have G_is_byte := ok_is_byte (P := P) (w := w) (base := base) T B
  refine B.is_row.F.ok sc_is_row (fun vs H Q E h => ?_) (fun cdv A outer s H vs Q E hr h => ?_)
  · obtain ⟨M, d, x, rfl, _⟩ := h
    rfl
  · obtain ⟨M, d, x, rfl, hd, hl, q⟩ := h
    refine ⟨_, (pss_one (ps_ret (pe_and (pe_callB call_isi (by rfl) T.b_isinstance (by decide +kernel) (pa_cons (pv 0) (pa_cons (pe_bltn (v := .ty "tuple") (by rfl) T.b_tuple (by decide +kernel) rfl) pa_nil))) (pe_one (pe_callB (cr_all rfl) (by rfl) T.b_all (by decide +kernel) (pa_cons (pe_lc (own := [("item", 1)]) (g := gName 1) rfl sc_is_row.nd (pi_tup (pv 0)) (blkOk_by (own := [("item", 1)]) (N := ["thing", "item"]) (sc := defScope s_is_row) (by decide +kernel)) (fun _ _ _ _ _ => pg_name (i := 1) sc_is_row.nd rfl (Or.inl rfl)) (fun _ _ _ _ _ => pts_nil) (fun _ _ _ _ _ => (pe_call G_is_byte (hr.mono (by decide)) rfl B.is_byte.m B.is_byte.F.kp B.is_byte.b .nil pass0 (pa_cons (pv 1) pa_nil)))) pa_nil)))))), ?_⟩
    walk_at "rd"
    refine dt_isT T.W hd ?_
    walk_at "rd"
    cases d with
    | tuple ds =>
      obtain ⟨a, xs, rfl, ha, hx⟩ := dt_tup' hd
      have hlx := hx.len
      have hl' : ds.length ≤ 900000 := hl
      refine rd_yes rfl ?_
      walk_at "rd"
      show iTup _ _ _ _ _
      refine rd_itup ?_
      walk_at "rd"
      refine ⟨a, rfl, ⟨xs, SqT.of ha⟩, fun D hD => lc_tup (K := K) (a := a) (xs := xs) (fun i H1 => Same H H1 ∧ H1 D = some (.lst (((ds.take i).map isByte).map V.bl))) ⟨same_new hD, upd_same⟩ (fun i H1 _ hh => SqT.of (hh.1 _ _ ha)) ?_ ?_⟩
      · rintro i y H1 hi ⟨hs, hacc⟩
        obtain ⟨d1, hd1, td1⟩ := hx.get' hi
        refine ⟨rfl, ?_⟩
        refine rd_tyes ?_
        refine rd_yes rfl ?_
        walk_at "rd"
        refine ⟨M, d1, y, rfl, td1.s hs, ?_⟩
        refine ⟨_, hacc, small' (by rw [List.length_map, List.length_map, List.length_take]; omega), fun b o e => (upd_ne (ne_of_none e hD)).trans (hs b o e), ?_⟩
        rw [upd_same, take_snoc hd1, List.map_append, List.map_append]
        rfl
      · rintro H1 ⟨hs, hacc⟩
        rw [← hlx, List.take_length] at hacc
        refine ⟨D, _, rfl, SqL.of hacc, ?_⟩
        exact q _ hs
    | _ =>
      refine rd_no rfl ?_
      exact q _ (Same.refl H)
theorem ok_check_row (T : Tx K mg) (B : Bk K mg T) : FnOk P w K mg base (L2.CX P w) 6 B.check_row.f B.check_row.fd ["row"] (spCkRow T.CP T.c_NoRow) := by
  have G_is_row := ok_is_row (P := P) (w := w) (base := base) T B
  have G_NoRow_init := ok_row_init (P := P) (w := w) (base := base) T B
  refine B.check_row.F.okX sc_check_row (fun vs H Q E h => ?_) (fun cdv A outer s H vs Q E hr h => ?_)
  · obtain ⟨M, d, x, rfl, _⟩ := h
    rfl
  · obtain ⟨M, d, x, rfl, hd, hl, q⟩ := h
    refine ⟨_, (pss_one (ps_if (pt_not (pt_val (pe_call G_is_row (hr.mono (by decide)) rfl B.is_row.m B.is_row.F.kp B.is_row.b .nil pass0 (pa_cons (pv 0) pa_nil)))) (pss_one (ps_raise rfl (takes_of rfl rfl rfl rfl) (pmk_pass T.x_NoRow B.NoRow_init.a B.NoRow_init.t G_NoRow_init (hr.mono (by decide)) B.NoRow_init.b pass0 rfl T.g_NoRow))) pss_nil)), ?_⟩
    walk_at "rd"
    refine ⟨M, d, x, rfl, hd, hl, fun H1 s1 => ?_⟩
    obtain ⟨q1, q0⟩ := q H1 s1
    walk_at "rd"
    refine rd_ite (fun h1 => ?_) (fun h1 => ?_)
    · intro e he
      exact ⟨⟨e, rfl, rfl, rfl⟩, q0 (by simpa using h1)⟩
    · exact q1 (by simpa using h1)
theorem ok_check_there (T : Tx K mg) (B : Bk K mg T) : FnOk P w K mg base (L2.CX P w) 3 B.check_there.f B.check_there.fd ["row", "place"] (spThere T.c_BadRow) := by
  have G_BadRow_init := ok_bad_init (P := P) (w := w) (base := base) T B
  refine B.check_there.F.okX sc_check_there (fun vs H Q E h => ?_) (fun cdv A outer s H vs Q E hr h => ?_)
  · obtain ⟨a, row, h, rfl, _⟩ := h
    rfl
  · obtain ⟨a, row, h, rfl, ha, q1, q0⟩ := h
    refine ⟨_, (pss_one (ps_if (pt_cmpR op_ge (pv 1) (pe_callB call_len_seq (by rfl) T.b_len (by decide +kernel) (pa_cons (pv 0) pa_nil)) (nomark _)) (pss_one (ps_raise rfl (takes_of rfl rfl rfl rfl) (pmk_oex T.x_BadRow B.BadRow_init.a B.BadRow_init.t G_BadRow_init (hr.mono (by decide)) B.BadRow_init.b .nil pass0 rfl T.g_BadRow (pa_cons (pe_callB call_len_seq (by rfl) T.b_len (by decide +kernel) (pa_cons (pv 0) pa_nil)) pa_nil)))) pss_nil)), ?_⟩
    walk_at "rd"
    refine ⟨a, _, rfl, .inr (SqT.of ha.1), ?_⟩
    walk_at "rd"
    refine rd_ite (fun h1 => ?_) (fun h1 => ?_)
    · have h2 : row.length ≤ h := by
        have := of_decide_eq_true h1
        rw [List.length_map] at this
        omega
      walk_at "rd"
      refine ⟨a, _, rfl, .inr (SqT.of ha.1), ?_⟩
      rw [List.length_map]
      exact bad_made (q0 h2)
    · refine q1 ?_
      have := of_decide_eq_false h1
      rw [List.length_map] at this
      omega
theorem ok_is_sign (T : Tx K mg) (B : Bk K mg T) : FnOk P w K mg base CX0 1 B.is_sign.f B.is_sign.fd ["number"] spSign := by
  refine B.is_sign.F.ok sc_is_sign (fun vs H Q E h => ?_) (fun cdv A outer s H vs Q E hr h => ?_)
  · obtain ⟨c, rfl, _⟩ := h
    rfl
  · obtain ⟨c, rfl, q⟩ := h
    refine ⟨_, (pss_one (ps_ret (pe_and (pe_chain op_le op_le (pe_glob (v := .int 32) (by rfl) T.g_LEAST_SIGN ⟨_, rfl⟩) (pv 0) (pe_glob (v := .int 126) (by rfl) T.g_GREATEST_SIGN ⟨_, rfl⟩)) (pe_one (pe_cmpR op_ne (pv 0) (pe_glob (v := .int 37) (by rfl) T.g_NO_SIGN ⟨_, rfl⟩) (nomark _)))))), ?_⟩
    unfold isSign at q
    walk_at "rd"
    refine rd_ite (fun h1 => ?_) (fun h1 => ?_)
    · rw [h1, Bool.true_and] at q
      walk_at "rd"
      refine rd_ite (fun h2 => ?_) (fun h2 => ?_)
      · rw [h2, Bool.true_and] at q
        walk_at "rd"
        exact q
      · rw [h2, Bool.false_and] at q
        exact q
    · rw [h1, Bool.false_and, Bool.false_and] at q
      walk_at "rd"
      exact q
end
end Mw

/-! R8 -/
namespace Mw
open PySem L2
section
variable {P : Program} {w : World} {K : PySem.W.Frag} {mg : Str → Option Value} {base : Heap}
local macro_rules | `(tactic| walk_at "rd") => `(tactic| (repeat (first
  | ((with_reducible refine' rd_var ?h0 ?_); (case h0 => rfl))
  | with_reducible refine rd_c ?_
  | with_reducible refine rd_op ?_
  | with_reducible refine rd_nil ?_
  | with_reducible refine rd_cons ?_
  | with_reducible refine rd_tup ?_
  | with_reducible refine rd_lst ?_
  | with_reducible refine rd_ifs ?_
  | with_reducible refine rd_seq ?_
  | with_reducible refine rd_next ?_
  | with_reducible refine rd_ret ?_
  | with_reducible refine rd_asg ?_
  | ((with_reducible refine' rd_gset ?hs ?_); (case hs => ((simp only [L2.start, List.map_cons, List.map_nil, List.length_cons, List.length_nil, List.cons_append, List.nil_append, List.set_cons_zero, List.set_cons_succ, Nat.reduceAdd, Nat.reduceSub, Nat.zero_add, List.reduceReplicate]); rfl)))
  | with_reducible refine rd_drop ?_
  | with_reducible refine rd_test ?_
  | with_reducible refine rd_B ?_
  | with_reducible refine rd_bl ?_
  | with_reducible refine rd_blP ?_
  | with_reducible refine rd_andV ?_
  | with_reducible refine rd_orV ?_
  | with_reducible refine rd_notV ?_
  | with_reducible refine rd_and ?_
  | with_reducible refine rd_or ?_
  | with_reducible refine rd_not ?_
  | with_reducible refine rd_chain ?_
  | with_reducible refine rd_dput ?_
  | with_reducible refine rd_dget ?_
  | with_reducible refine rd_cb ?_
  | with_reducible refine rd_call ?_
  | with_reducible refine rd_un ?_
  | with_reducible refine rd_sl ?_
  | with_reducible refine rd_nopart ?_
  | with_reducible refine rd_part ?_
  | with_reducible refine rd_intP ?_
  | with_reducible refine rd_rU ?_
  | with_reducible refine rd_fld ?_
  | with_reducible refine rd_eqI ?_
  | with_reducible refine rd_neI ?_
  | with_reducible refine rd_mko ?_
  | with_reducible refine rd_bm ?_
  | with_reducible refine rd_gsub ?_
  | with_reducible refine rd_i0 ?_)))
theorem ok_whole_at (T : Tx K mg) (B : Bk K mg T) : FnOk P w K mg base (L2.CX P w) 3 B.whole_at.f B.whole_at.fd ["row", "place"] (spWholeAt T.c_BadRow) := by
  have G_BadRow_init := ok_bad_init (P := P) (w := w) (base := base) T B
  refine B.whole_at.F.okX sc_whole_at (fun vs H Q E h => ?_) (fun cdv A outer s H vs Q E hr h => ?_)
  · obtain ⟨a, row, h, rfl, _⟩ := h
    rfl
  · obtain ⟨a, row, h, rfl, ha, hl, q1, q0⟩ := h
    refine ⟨_, (pss_cons (ps_set (i := 2) sc_whole_at.nd rfl (Or.inl rfl) (pv 1))
      (C8.pss_cut (ps_while (passes_of rfl) (PW.pt (pw_and (pt_cmpR op_lt (pv 2) (pe_callB call_len_seq (by rfl) T.b_len (by decide +kernel) (pa_cons (pv 0) pa_nil)) (nomark _)) (pw_and1 (pt_cmpR op_ge (pe_ix ix_tup (pv 0) (pv 2) (fun _ _ => rfl)) (pe_glob (v := .int 128) (by rfl) T.g_FIGURE_LIMIT ⟨_, rfl⟩) (nomark _))))) (pss_one (ps_aug (i := 2) sc_whole_at.nd rfl (Or.inl rfl) pe_int ip_add)))
      (C8.pss_cut (ps_if (PW.pt (pw_or (pt_cmpR op_eq (pv 2) (pe_callB call_len_seq (by rfl) T.b_len (by decide +kernel) (pa_cons (pv 0) pa_nil)) (nomark _)) (pw_or1 (PW.pt (pw_and (pt_cmpR op_eq (pe_ix ix_tup (pv 0) (pv 2) (fun _ _ => rfl)) pe_int (nomark _)) (pw_and1 (pt_cmpR op_gt (pv 2) (pv 1) (nomark _)))))))) (pss_one (ps_raise rfl (takes_of rfl rfl rfl rfl) (pmk_oex T.x_BadRow B.BadRow_init.a B.BadRow_init.t G_BadRow_init (hr.mono (by decide)) B.BadRow_init.b .nil pass0 rfl T.g_BadRow (pa_cons (pv 1) pa_nil)))) pss_nil)
      (pss_cons (ps_set (i := 3) sc_whole_at.nd rfl (Or.inl rfl) pe_int)
      (pss_cons (ps_for (passes_of rfl) rfl (pi_tup (pe_revT (pe_slice sl_tupA (pv 0) (po_some (pv 1)) (po_some (pe_op op_add (pv 2) pe_int))))) (pg_name (i := 4) sc_whole_at.nd rfl (Or.inl rfl)) (pss_one (ps_set (i := 3) sc_whole_at.nd rfl (Or.inl rfl) (pe_op op_add (pe_op op_mul (pv 3) (pe_glob (v := .int 128) (by rfl) T.g_FIGURE_LIMIT ⟨_, rfl⟩)) (pe_op op_mod (pv 4) (pe_glob (v := .int 128) (by rfl) T.g_FIGURE_LIMIT ⟨_, rfl⟩))))))
      (pss_one (ps_ret (pe_tup (pa_cons (pv 3) (pa_cons (pe_op op_add (pv 2) pe_int) pa_nil)))))))))), ?_⟩
    walk_at "rd"
    generalize hL : lead (row.drop h) = L
    refine ⟨fun σ1 H1 => σ1 = [some (.ref a), some (.int (h : Int)), some (.int ((h + L : Nat) : Int)), none, none] ∧ H1 = H, ?_, ?_⟩
    · refine ⟨fun μ σ H1 => ∃ i : Nat, σ = [some (.ref a), some (.int (h : Int)), some (.int ((h + i : Nat) : Int)), none, none] ∧ H1 = H ∧ h + i ≤ row.length ∧ L = i + lead (row.drop (h + i)) ∧ μ = row.length - (h + i),
        ⟨_, 0, rfl, rfl, hl, by simp [hL], rfl⟩, ?_⟩
      rintro μ σ H1 ⟨i, rfl, rfl, hi, hlead, hμ⟩
      walk_at "rd"
      refine ⟨a, _, rfl, .inr (SqT.of ha.1), ?_⟩
      walk_at "rd"
      rw [List.length_map]
      refine rd_ite (fun h1 => ?_) (fun h1 => ?_)
      · have hlt : h + i < row.length := by
          have := of_decide_eq_true h1
          omega
        obtain ⟨b, eb, ebv⟩ := row_get hlt
        walk_at "rd"
        refine rd_ixT ha.1 (atI_nat ebv) ?_
        walk_at "rd"
        refine rd_ite (fun h2 => ?_) (fun h2 => ?_)
        · refine ⟨fun σ' H' => ∃ m', m' < μ ∧ ∃ i : Nat, σ' = [some (.ref a), some (.int (h : Int)), some (.int ((h + i : Nat) : Int)), none, none] ∧ H' = H1 ∧ h + i ≤ row.length ∧ L = i + lead (row.drop (h + i)) ∧ m' = row.length - (h + i), fun _ _ h => h, ?_⟩
          refine rd_aug rfl ?_
          walk_at "rd"
          refine ⟨_, _, rfl, rfl, ?_⟩
          refine ⟨_, by omega, i + 1, ?_, rfl, hlt, ?_, rfl⟩
          · rw [show ((h + (i + 1) : Nat) : Int) = ((h + i : Nat) : Int) + 1 by omega]
            rfl
          · rw [hlead, lead_ge eb (of_decide_eq_true h2)]
            rw [show h + (i + 1) = h + i + 1 by omega]
            omega
        · have e0 := lead_lt eb (of_decide_eq_false h2)
          have : L = i := by omega
          subst this
          exact ⟨rfl, rfl⟩
      · have e0 : lead (row.drop (h + i)) = 0 := lead_end (by
          have := of_decide_eq_false h1
          omega)
        have : L = i := by omega
        subst this
        refine rd_no rfl ?_
        exact ⟨rfl, rfl⟩
    · rintro σ1 H1 ⟨rfl, rfl⟩
      have lle : h + L ≤ row.length := by
        have := lead_le (row.drop h)
        rw [List.length_drop] at this
        omega
      walk_at "rd"
      refine ⟨fun σ2 H2 => σ2 = [some (.ref a), some (.int (h : Int)), some (.int ((h + L : Nat) : Int)), none, none] ∧ H2 = H1 ∧ whR row h = some (val ((row.drop h).take (L + 1)), h + L + 1) ∧ h + L < row.length, ?_, ?_⟩
      · walk_at "rd"
        refine ⟨a, _, rfl, .inr (SqT.of ha.1), ?_⟩
        walk_at "rd"
        rw [List.length_map]
        refine rd_ite (fun h1 => ?_) (fun h1 => ?_)
        · refine rd_yes rfl ?_
          walk_at "rd"
          refine bad_made (q0 ?_)
          unfold whR
          rw [hL, List.getElem?_eq_none (by have := of_decide_eq_true h1; omega)]
        · have hlt : h + L < row.length := by
            have := of_decide_eq_false h1
            omega
          obtain ⟨b, eb, ebv⟩ := row_get hlt
          have eW : whR row h = if b = 0 ∧ 0 < L then none else some (val ((row.drop h).take (L + 1)), h + L + 1) := by
            unfold whR
            rw [hL, eb]
          walk_at "rd"
          refine rd_ixT ha.1 (atI_nat ebv) ?_
          walk_at "rd"
          refine rd_ite (fun h2 => ?_) (fun h2 => ?_)
          · walk_at "rd"
            refine rd_ite (fun h3 => ?_) (fun h3 => ?_)
            · walk_at "rd"
              refine bad_made (q0 ?_)
              rw [eW, if_pos ⟨of_decide_eq_true h2, by have := of_decide_eq_true h3; omega⟩]
            · refine ⟨rfl, rfl, ?_, hlt⟩
              rw [eW, if_neg (fun z => by have := of_decide_eq_false h3; omega)]
          · refine rd_no rfl ?_
            refine ⟨rfl, rfl, ?_, hlt⟩
            rw [eW, if_neg (fun z => of_decide_eq_false h2 z.1)]
      · rintro σ2 H2 ⟨rfl, rfl, hw, hlt⟩
        walk_at "rd"
        show iTup _ _ _ _ _
        refine rd_itup ?_
        refine rd_revT ?_
        walk_at "rd"
        refine rd_cutA ha.1 fun c H3 s3 hc => ?_
        rw [show ((h + L : Nat) : Int) + 1 = ((h + L + 1 : Nat) : Int) by omega, cutN row h (h + L + 1) hl hlt V.int, show h + L + 1 - h = L + 1 by omega] at hc
        generalize hxs : (row.drop h).take (L + 1) = xs at hc hw
        refine ⟨c, _, rfl, SqT.of hc, fun d nd => ?_⟩
        have s4 := s3.trans (same_new (o := .tup (xs.map V.int).reverse) nd)
        refine ⟨d, rfl, ⟨_, SqT.of upd_same⟩, for_tup (K := K) (a := d) (xs := (xs.map V.int).reverse) (fun i σ H4 => H4 = upd H3 d (.tup (xs.map V.int).reverse) ∧ ∃ u : Option V, σ = [some (.ref a), some (.int (h : Int)), some (.int ((h + L : Nat) : Int)), some (.int (val (xs.drop (xs.length - i)))), u])
          ⟨rfl, none, by rw [Nat.sub_zero, List.drop_length]; rfl⟩ (fun i σ H4 _ hh => by rw [hh.1]; exact SqT.of upd_same) ?_ ?_⟩
        · rintro i y σ H4 hi ⟨rfl, u, rfl⟩
          rw [← List.map_reverse] at hi
          obtain ⟨b, hb, rfl⟩ := mapint_get hi
          walk_at "rd"
          refine rd_iC (.inr ⟨by decide, by decide⟩) ?_
          walk_at "rd"
          refine rd_iC (show (0 : Int) < 128 by decide) ?_
          walk_at "rd"
          refine ⟨rfl, some (.int b), ?_⟩
          rw [val_rev xs i b hb]
        · rintro σ H4 ⟨rfl, u, rfl⟩
          rw [List.length_reverse, List.length_map, Nat.sub_self, List.drop_zero]
          walk_at "rd"
          refine rd_disp rfl fun t nt => ?_
          have := q1 _ _ hw t _ (s4.trans (same_new nt)) (by rw [upd_same])
          exact this
end
end Mw

/-! R9m -/
/-! What is read, by cases. -/
namespace Mw
open PySem L2
theorem appR_cons {α : Type} (l : List α) (a : α) (r : Rs (List α)) : appR l (consR a r) = appR (l ++ [a]) r := by
  cases r with
  | bad e => rfl
  | ok m e =>
    show Rs.ok (l ++ (a :: m)) e = Rs.ok (l ++ [a] ++ m) e
    rw [List.append_assoc]
    rfl
def inn (row : List Int) : Nat → Option (Nat → Rs PyData → Prop)
  | 0 => none
  | n + 1 => some (Rd row n)
theorem rdd {row : List Int} {n h : Nat} {r : Rs PyData} : Rd row n h r ↔ RdB row (inn row n) h r := by
  cases n <;> exact Iff.rfl
theorem rdB_none {row : List Int} {R : Option (Nat → Rs PyData → Prop)} {h : Nat} (l : row.length ≤ h) : RdB row R h (.bad row.length) := by
  unfold RdB
  rw [List.getElem?_eq_none l]
theorem rdB_top {row : List Int} {R : Option (Nat → Rs PyData → Prop)} {h : Nat} {b : Int} (e : row[h]? = some b) (c : 6 < b ∨ (b = 6 ∧ R.isNone = true)) : RdB row R h (.bad h) := by
  unfold RdB
  simp only [e, if_pos c]
theorem rdB_low {row : List Int} {R : Option (Nat → Rs PyData → Prop)} {h : Nat} {b : Int} (e : row[h]? = some b) (c : b < 3) : RdB row R h (.ok (if b = 0 then .none else .bool (decide (b = 2))) (h + 1)) := by
  unfold RdB
  simp only [e, if_neg (show ¬ (6 < b ∨ (b = 6 ∧ R.isNone = true)) by omega), if_pos c]
theorem rdB_wh {row : List Int} {R : Option (Nat → Rs PyData → Prop)} {h : Nat} {b : Int} (e : row[h]? = some b) (c : ¬ (6 < b ∨ (b = 6 ∧ R.isNone = true))) (d : ¬ b < 3) (w : whR row (h + 1) = none) : RdB row R h (.bad (h + 1)) := by
  unfold RdB
  simp only [e, if_neg c, if_neg d, w]
theorem rdB_int {row : List Int} {R : Option (Nat → Rs PyData → Prop)} {h f : Nat} {b n : Int} (e : row[h]? = some b) (d : ¬ b < 3) (c : b < 5) (w : whR row (h + 1) = some (n, f)) : RdB row R h (.ok (.int (if b = 3 then n else -1 - n)) f) := by
  unfold RdB
  simp only [e, if_neg (show ¬ (6 < b ∨ (b = 6 ∧ R.isNone = true)) by omega), if_neg d, w, if_pos c]
theorem rdB_s0 {row : List Int} {R : Option (Nat → Rs PyData → Prop)} {h f : Nat} {b n : Int} (e : row[h]? = some b) (c : b = 5) (w : whR row (h + 1) = some (n, f)) (k : n = 0 ∨ 20 < n) : RdB row R h (.bad (h + 1)) := by
  subst c
  unfold RdB
  simp only [e, w, if_pos k]
  simp
theorem rdB_s1 {row : List Int} {R : Option (Nat → Rs PyData → Prop)} {h f : Nat} {b n : Int} (e : row[h]? = some b) (c : b = 5) (w : whR row (h + 1) = some (n, f)) (k : ¬ (n = 0 ∨ 20 < n)) : RdB row R h (strD (strR row n.toNat f)) := by
  subst c
  unfold RdB
  simp only [e, w, if_neg k]
  simp
theorem rdB_tup {row : List Int} {R : Nat → Rs PyData → Prop} {h f : Nat} {b n : Int} {r : Rs (List PyData)} (e : row[h]? = some b) (c : b = 6) (w : whR row (h + 1) = some (n, f)) (k : Its R n.toNat f r) : RdB row (some R) h (tupD r) := by
  subst c
  unfold RdB
  simp only [e, w]
  simp
  exact ⟨r, k, rfl⟩
end Mw

/-! R9 -/
namespace Mw
open PySem L2
def spPA (CP : Addr → Prop) (C : Addr) (n : Nat) : Sp := fun vs H Q E => ∃ (a : Addr) (row : List Int) (h : Nat), vs = [.ref a, .int (h : Int), .int (n : Int)] ∧ RowAt H a row ∧
  (∀ d e, Rd row n h (.ok d e) → ∀ t v H', Same H H' → H' t = some (.tup [v, .int (e : Nat)]) → Dt CP [] H' d v → Q (.ref t) H') ∧ (∀ e, Rd row n h (.bad e) → ∀ H', Same H H' → Raised C (.int (e : Nat)) H' E)
def spTA (CP : Addr → Prop) (C : Addr) (n : Nat) : Sp := fun vs H Q E => ∃ (a : Addr) (row : List Int) (h m n' : Nat), n = n' + 1 ∧ vs = [.ref a, .int (h : Int), .int (m : Int), .int (n : Int)] ∧ RowAt H a row ∧ h ≤ row.length ∧
  (∀ ds e, Its (Rd row n') m h (.ok ds e) → ∀ t v H', Same H H' → H' t = some (.tup [v, .int (e : Nat)]) → Dt CP [] H' (.tuple ds) v → Q (.ref t) H') ∧ (∀ e, Its (Rd row n') m h (.bad e) → ∀ H', Same H H' → Raised C (.int (e : Nat)) H' E)
section
variable {P : Program} {w : World} {K : PySem.W.Frag} {mg : Str → Option Value} {base : Heap}
local macro_rules | `(tactic| walk_at "rd") => `(tactic| (repeat (first
  | ((with_reducible refine' rd_var ?h0 ?_); (case h0 => rfl))
  | with_reducible refine rd_c ?_
  | with_reducible refine rd_op ?_
  | with_reducible refine rd_nil ?_
  | with_reducible refine rd_cons ?_
  | with_reducible refine rd_tup ?_
  | with_reducible refine rd_lst ?_
  | with_reducible refine rd_ifs ?_
  | with_reducible refine rd_seq ?_
  | with_reducible refine rd_next ?_
  | with_reducible refine rd_ret ?_
  | with_reducible refine rd_asg ?_
  | ((with_reducible refine' rd_gset ?hs ?_); (case hs => ((simp only [L2.start, List.map_cons, List.map_nil, List.length_cons, List.length_nil, List.cons_append, List.nil_append, List.set_cons_zero, List.set_cons_succ, Nat.reduceAdd, Nat.reduceSub, Nat.zero_add, List.reduceReplicate]); rfl)))
  | with_reducible refine rd_drop ?_
  | with_reducible refine rd_test ?_
  | with_reducible refine rd_B ?_
  | with_reducible refine rd_bl ?_
  | with_reducible refine rd_blP ?_
  | with_reducible refine rd_andV ?_
  | with_reducible refine rd_orV ?_
  | with_reducible refine rd_notV ?_
  | with_reducible refine rd_and ?_
  | with_reducible refine rd_or ?_
  | with_reducible refine rd_not ?_
  | with_reducible refine rd_chain ?_
  | with_reducible refine rd_dput ?_
  | with_reducible refine rd_dget ?_
  | with_reducible refine rd_cb ?_
  | with_reducible refine rd_call ?_
  | with_reducible refine rd_un ?_
  | with_reducible refine rd_sl ?_
  | with_reducible refine rd_nopart ?_
  | with_reducible refine rd_part ?_
  | with_reducible refine rd_intP ?_
  | with_reducible refine rd_rU ?_
  | with_reducible refine rd_fld ?_
  | with_reducible refine rd_eqI ?_
  | with_reducible refine rd_neI ?_
  | with_reducible refine rd_mko ?_
  | with_reducible refine rd_bm ?_
  | with_reducible refine rd_gsub ?_
  | with_reducible refine rd_i0 ?_)))
theorem ok_string_at (T : Tx K mg) (B : Bk K mg T) : FnOk P w K mg base (L2.CX P w) 4 B.string_at.f B.string_at.fd ["row", "place", "many"] (spStringAt T.c_BadRow) := by
  have G_check_there := ok_check_there (P := P) (w := w) (base := base) T B
  have G_is_sign := ok_is_sign (P := P) (w := w) (base := base) T B
  have G_BadRow_init := ok_bad_init (P := P) (w := w) (base := base) T B
  refine B.string_at.F.okX sc_string_at (fun vs H Q E h => ?_) (fun cdv A outer s H vs Q E hr h => ?_)
  · obtain ⟨a, row, h, m, rfl, _⟩ := h
    rfl
  · obtain ⟨a, row, h, m, rfl, ha, hl, hm, q1, q0⟩ := h
    have hle := ha.le
    refine ⟨_, (pss_cons (ps_set (i := 3) sc_string_at.nd rfl (Or.inl rfl) (pe_lst pa_nil))
      (pss_cons (ps_for (passes_of rfl) rfl (pi_range2 (by rfl) T.b_range (pa_cons (pv 1) (pa_cons (pe_op op_add (pv 1) (pv 2)) pa_nil))) (pg_name (i := 4) sc_string_at.nd rfl (Or.inl rfl)) (pss_cons (ps_expr (pe_call G_check_there (hr.mono (by decide)) rfl B.check_there.m B.check_there.F.kp B.check_there.b .nil (passes_call (takes_of rfl rfl rfl rfl) (fun _ _ _ _ h => h)) (pa_cons (pv 0) (pa_cons (pv 4) pa_nil))))
      (pss_cons (ps_if (pt_not (pt_val (pe_call G_is_sign (hr.mono (by decide)) rfl B.is_sign.m B.is_sign.F.kp B.is_sign.b .nil pass0 (pa_cons (pe_ix ix_tup (pv 0) (pv 4) (fun _ _ => rfl)) pa_nil)))) (pss_one (ps_raise rfl (takes_of rfl rfl rfl rfl) (pmk_oex T.x_BadRow B.BadRow_init.a B.BadRow_init.t G_BadRow_init (hr.mono (by decide)) B.BadRow_init.b .nil pass0 rfl T.g_BadRow (pa_cons (pv 4) pa_nil)))) pss_nil)
      (pss_one (ps_expr (pe_bm PySem.F.plainAttrs_list PySem.F.slot_list_append PySem.F.type_list_append mt_append (pv 3) (pa_cons (pe_ix ix_str (pe_glob (v := .str SC_SIGNS) (by rfl) T.g_SIGNS ⟨_, rfl⟩) (pe_op op_sub (pe_ix ix_tup (pv 0) (pv 4) (fun _ _ => rfl)) (pe_glob (v := .int 32) (by rfl) T.g_LEAST_SIGN ⟨_, rfl⟩)) (fun _ _ => rfl)) pa_nil)))))))
      (pss_one (ps_ret (pe_tup (pa_cons (pe_join pe_str (pv 3)) (pa_cons (pe_op op_add (pv 1) (pv 2)) pa_nil))))))), ?_⟩
    walk_at "rd"
    refine rd_disp rfl fun l nl => ?_
    have s1 := same_new (o := .lst []) nl
    walk_at "rd"
    show iRng2 _ _ _ _
    refine rd_rng2' ?_
    walk_at "rd"
    refine ⟨h, (h : Int) + m, rfl, ⟨by omega, by omega, by omega, by omega⟩, ?_⟩
    rw [show ((h : Int) + m - h).toNat = m by omega]
    refine for_range (lo := (h : Int)) (n := m) (fun i σ H1 => ∃ (cs : List Nat) (u : Option V), σ = [some (.ref a), some (.int (h : Int)), some (.int (m : Int)), some (.ref l), u] ∧ cs.length = i ∧ Same H H1 ∧ H1 l = some (.lst (cs.map fun c => V.str ⟨#[c]⟩)) ∧ strR row m h = appR cs (strR row (m - i) (h + i)))
      ⟨[], none, rfl, rfl, s1, upd_same, by
        rw [Nat.sub_zero, Nat.add_zero]
        cases strR row m h <;> rfl⟩ ?_ ?_
    · rintro i σ H1 hi ⟨cs, u, rfl, hlc, hs, hacc, hst⟩
      obtain ⟨k, hk⟩ : ∃ k, m - i = k + 1 := ⟨m - i - 1, by omega⟩
      rw [hk] at hst
      have eH : ((h : Int) + (i : Nat)) = ((h + i : Nat) : Int) := by omega
      walk_at "rd"
      rw [eH]
      refine ⟨a, row, h + i, rfl, ha.same hs, fun hlt => ?_, fun hge => ?_⟩
      · obtain ⟨b, eb, ebv⟩ := row_get hlt
        have e2 : strR row (k + 1) (h + i) = if isSign b = true then consR b.toNat (strR row k (h + i + 1)) else .bad (h + i) := by
          show (match row[h + i]? with | none => _ | some b => _) = _
          rw [eb]
        rw [e2] at hst
        walk_at "rd"
        refine rd_ixT (hs _ _ ha.1) (atI_nat ebv) ?_
        walk_at "rd"
        refine ⟨b, rfl, ?_⟩
        walk_at "rd"
        refine rd_ite (fun h1 => ?_) (fun h1 => ?_)
        · walk_at "rd"
          refine bad_made (q0 _ ?_ _ hs)
          rw [hst, if_neg (by simpa using h1)]
          rfl
        · have h1' : isSign b = true := by simpa using h1
          walk_at "rd"
          refine ⟨.inl ⟨rfl, _, SqL.of hacc⟩, ?_⟩
          walk_at "rd"
          refine rd_ixT (hs _ _ ha.1) (atI_nat ebv) ?_
          walk_at "rd"
          have b32 : 32 ≤ b := by
            have := h1'
            unfold isSign at this
            simp only [Bool.and_eq_true, decide_eq_true_eq] at this
            omega
          refine ⟨_, b - 32, b.toNat, rfl, rfl, by decide, at_of (j := (b - 32).toNat) (by omega) (sign_at h1'), ?_⟩
          walk_at "rd"
          refine rd_append hacc (small' (by rw [List.length_map]; omega)) ?_
          refine ⟨cs ++ [b.toNat], _, rfl, by simp [hlc], fun x o ex => (upd_ne (ne_of_none ex nl)).trans (hs x o ex), ?_, ?_⟩
          · rw [upd_same, List.map_append]
            rfl
          · rw [hst, if_pos h1', appR_cons, show m - (i + 1) = k by omega, show h + (i + 1) = h + i + 1 by omega]
      · refine Raised.of (q0 _ ?_ _ (Same.refl H)) hs
        rw [hst]
        show appR cs (match row[h + i]? with | none => _ | some b => _) = _
        rw [List.getElem?_eq_none hge]
        rfl
    · rintro σ H1 ⟨cs, u, rfl, hlc, hs, hacc, hst⟩
      walk_at "rd"
      refine rd_join ?_
      walk_at "rd"
      refine ⟨⟨_, rfl⟩, ?_⟩
      walk_at "rd"
      refine ⟨"", l, cs.map fun c => (⟨#[c]⟩ : Str), rfl, rfl, .inl (SqL.of (by rw [hacc, List.map_map]; rfl)), join_ok (by omega), ?_⟩
      rw [show (Str.ofString "") = ("" : Str) from rfl, join_one]
      walk_at "rd"
      refine rd_disp rfl fun t nt => ?_
      refine q1 cs (h + m) ?_ t _ (hs.trans (same_new nt)) ?_
      · rw [hst, Nat.sub_self]
        show appR cs (.ok [] (h + m)) = _
        show Rs.ok (cs ++ []) (h + m) = _
        rw [List.append_nil]
      · rw [upd_same]
        rfl
theorem ta_of (T : Tx K mg) (B : Bk K mg T) {n k : Nat} (hk : 6 ≤ k) (G_parcel_at : FnOk P w K mg base (L2.CX P w) k B.parcel_at.f B.parcel_at.fd ["row", "place", "deep"] (spPA T.CP T.c_BadRow n)) :
    FnOk P w K mg base (L2.CX P w) (k + 1) B.tuple_at.f B.tuple_at.fd ["row", "place", "many", "deep"] (spTA T.CP T.c_BadRow (n + 1)) := by
  refine B.tuple_at.F.okX sc_tuple_at (fun vs H Q E h => ?_) (fun cdv A outer s H vs Q E hr h => ?_)
  · obtain ⟨a, row, h, m, n', _, rfl, _⟩ := h
    rfl
  · obtain ⟨a, row, h, m, n', hn, rfl, ha, hl, q1, q0⟩ := h
    have : n = n' := by omega
    subst this
    have hle := ha.le
    refine ⟨_, (pss_cons (ps_set (i := 4) sc_tuple_at.nd rfl (Or.inl rfl) (pe_lst pa_nil))
      (pss_cons (ps_set (i := 5) sc_tuple_at.nd rfl (Or.inl rfl) (pv 1))
      (pss_cons (ps_while (passes_of rfl) (pt_cmpR op_lt (pe_callB call_len_seq (by rfl) T.b_len (by decide +kernel) (pa_cons (pv 4) pa_nil)) (pv 2) (nomark _)) (pss_cons (ps_asg (pe_call G_parcel_at (hr.mono (by omega)) rfl B.parcel_at.m B.parcel_at.F.kp B.parcel_at.b .nil (passes_call (takes_of rfl rfl rfl rfl) (fun _ _ _ _ h => h)) (pa_cons (pv 0) (pa_cons (pv 5) (pa_cons (pe_op op_sub (pv 3) pe_int) pa_nil)))) (pg_tup (by rfl) (pgs_cons (pg_name (i := 6) sc_tuple_at.nd rfl (Or.inl rfl)) (pgs_cons (pg_name (i := 5) sc_tuple_at.nd rfl (Or.inl rfl)) pgs_nil))))
      (pss_one (ps_expr (pe_bm PySem.F.plainAttrs_list PySem.F.slot_list_append PySem.F.type_list_append mt_append (pv 4) (pa_cons (pv 6) pa_nil))))))
      (pss_one (ps_ret (pe_tup (pa_cons (pe_callTy call_tuple_of (by rfl) T.b_tuple (by decide +kernel) (pa_cons (pv 4) pa_nil)) (pa_cons (pv 5) pa_nil)))))))), ?_⟩
    walk_at "rd"
    refine rd_disp rfl fun l nl => ?_
    have s1 := same_new (o := .lst []) nl
    walk_at "rd"
    refine ⟨fun μ σ H1 => ∃ (ds : List PyData) (vs : List V) (h2 : Nat) (u : Option V), σ = [some (.ref a), some (.int (h : Int)), some (.int (m : Int)), some (.int ((n + 1 : Nat) : Int)), some (.ref l), some (.int (h2 : Int)), u] ∧ Same H H1 ∧ H1 l = some (.lst vs) ∧ DtAll T.CP [] H1 ds vs ∧ plainAll ds = true ∧ Run (Rd row n) h ds h2 ∧ h2 ≤ row.length ∧ ds.length + h ≤ h2 ∧ ds.length ≤ m ∧ μ = row.length - h2,
      ⟨_, [], [], h, none, rfl, s1, upd_same, dtAll_nil, rfl, Run.nil, hl, by simp, Nat.zero_le _, rfl⟩, ?_⟩
    rintro μ σ H1 ⟨ds, vs, h2, u, rfl, hs, hacc, hds, hpl, hrun, hh2, hlen, hdm, hμ⟩
    have hlv := hds.len
    walk_at "rd"
    refine ⟨l, vs, rfl, .inl (SqL.of hacc), ?_⟩
    walk_at "rd"
    rw [← hlv]
    refine rd_ite (fun h1 => ?_) (fun h1 => ?_)
    · have hlt : ds.length < m := by
        have := of_decide_eq_true h1
        omega
      refine ⟨fun σ' H' => ∃ m', m' < μ ∧ ∃ (ds : List PyData) (vs : List V) (h2 : Nat) (u : Option V), σ' = [some (.ref a), some (.int (h : Int)), some (.int (m : Int)), some (.int ((n + 1 : Nat) : Int)), some (.ref l), some (.int (h2 : Int)), u] ∧ Same H H' ∧ H' l = some (.lst vs) ∧ DtAll T.CP [] H' ds vs ∧ plainAll ds = true ∧ Run (Rd row n) h ds h2 ∧ h2 ≤ row.length ∧ ds.length + h ≤ h2 ∧ ds.length ≤ m ∧ m' = row.length - h2, fun _ _ h => h, ?_⟩
      walk_at "rd"
      refine ⟨a, row, h2, ?_, ha.same hs, fun d e hR t v H2 s2 ht hd => ?_, fun e hR H2 s2 => ?_⟩
      · rw [show ((n + 1 : Nat) : Int) - 1 = (n : Int) by omega]
        rfl
      · have hlee := rd_le hR
        have hs2 := hs.trans s2
        have nl2 := s2 _ _ hacc
        walk_at "rd"
        refine ⟨t, _, rfl, SqT.of ht, rfl, _, _, rfl, _, _, rfl, rfl, ?_⟩
        walk_at "rd"
        refine ⟨.inl ⟨rfl, _, SqL.of nl2⟩, ?_⟩
        walk_at "rd"
        refine rd_append nl2 (small' (by omega)) ?_
        have hp2 : plainAll (ds ++ [d]) = true := by
          rw [plain_app, hpl]
          show (true && (plainD d && true)) = true
          rw [rd_plain hR]
          rfl
        refine ⟨_, by omega, ds ++ [d], vs ++ [v], e, _, rfl, fun x o ex => (upd_ne (ne_of_none ex nl)).trans (hs2 x o ex), upd_same, DtAll.plain (M := []) (KT.mut nl2 fun _ z => by cases z) _ _ hp2 ((hds.s s2).snoc hd), hp2, hrun.snoc hR, hlee.2, by simp; omega, by simp; omega, rfl⟩
      · exact q0 e (run_bad hrun hlt hR) H2 (hs.trans s2)
    · have hend : ds.length = m := by
        have := of_decide_eq_false h1
        omega
      walk_at "rd"
      refine ⟨l, vs, rfl, .inl ⟨SqL.of hacc, fun u nu => ?_⟩⟩
      have s2 := hs.trans (same_new (o := .tup vs) nu)
      walk_at "rd"
      refine rd_disp rfl fun t nt => ?_
      have s3 := same_new (o := .tup [.ref u, .int (h2 : Int)]) nt
      have hI := run_end hrun
      rw [hend] at hI
      refine q1 ds h2 hI t (.ref u) _ (s2.trans s3) upd_same (dt_tup (s3 _ _ upd_same) ((hds.s (same_new nu)).s s3))
end
end Mw

/-! R10m -/
/-! Sizes, marks, seals. -/
namespace Mw
open PySem L2
mutual
def szd : PyData → Nat
  | .str s => s.length + 1
  | .tuple ds => szdAll ds + 1
  | .none | .bool _ | .int _ | .list _ | .dict _ => 1
def szdAll : List PyData → Nat
  | [] => 0
  | d :: ds => szd d + szdAll ds
end
theorem szd_pos (d : PyData) : 1 ≤ szd d := by
  cases d <;> simp [szd]
theorem szdAll_len : ∀ ds : List PyData, ds.length ≤ szdAll ds
  | [] => Nat.zero_le _
  | d :: ds => by
    have := szd_pos d
    have := szdAll_len ds
    show ds.length + 1 ≤ szd d + szdAll ds
    omega
theorem szdAll_get : ∀ {ds : List PyData} {i : Nat} {d : PyData}, ds[i]? = some d → szd d ≤ szdAll ds
  | [], i, d, e => by simp at e
  | c :: ds, 0, d, e => by
    cases e
    show szd c ≤ szd c + szdAll ds
    omega
  | c :: ds, i + 1, d, e => by
    have := szdAll_get (ds := ds) (i := i) (d := d) (by simpa using e)
    show szd d ≤ szd c + szdAll ds
    omega
mutual
theorem szd_by : ∀ {n : Nat} (d : PyData), isPc n d = true → szd d ≤ (byD d).length
  | n, .none, _ => Nat.le_refl _
  | n, .bool _, _ => Nat.le_refl _
  | n, .int i, _ => by
    show 1 ≤ (if 0 ≤ i then (3 : Int) :: wh i.toNat else 4 :: wh (-1 - i).toNat).length
    split <;> simp
  | n, .str s, h => by
    show s.length + 1 ≤ ((5 : Int) :: (wh s.length ++ sgn s)).length
    rw [List.length_cons, List.length_append, sgn_len]
    omega
  | n, .list _, h => by simp [isPc] at h
  | n, .dict _, h => by simp [isPc] at h
  | n, .tuple ds, h => by
    simp only [isPc, Bool.and_eq_true, decide_eq_true_eq] at h
    have := szdAll_by ds h.2
    show szdAll ds + 1 ≤ ((6 : Int) :: (wh ds.length ++ byAll ds)).length
    rw [List.length_cons, List.length_append]
    omega
theorem szdAll_by : ∀ {n : Nat} (ds : List PyData), isPcAll n ds = true → szdAll ds ≤ (byAll ds).length
  | n, [], _ => Nat.le_refl _
  | n, d :: ds, h => by
    simp only [isPcAll, Bool.and_eq_true] at h
    have := szd_by d h.1
    have := szdAll_by ds h.2
    show szd d + szdAll ds ≤ (byD d ++ byAll ds).length
    rw [List.length_append]
    omega
end
def inB (b : Int) : Prop := 0 ≤ b ∧ b < 256
theorem wh_by : ∀ (k n : Nat), n ≤ k → ∀ b ∈ wh n, inB b
  | 0, n, h, b, hb => by
    rw [wh_lt (by omega)] at hb
    have : b = (n : Int) := by simpa using hb
    unfold inB
    omega
  | k + 1, n, h, b, hb => by
    by_cases c : n < 128
    · rw [wh_lt c] at hb
      have : b = (n : Int) := by simpa using hb
      unfold inB
      omega
    · rw [wh_ge c] at hb
      rcases List.mem_cons.mp hb with e | e
      · unfold inB
        omega
      · exact wh_by k (n / 128) (by omega) b e
mutual
theorem byD_by : ∀ {n : Nat} (d : PyData), isPc n d = true → ∀ b ∈ byD d, inB b
  | n, .none, _, b, hb => by
    have : b = 0 := by simpa [byD] using hb
    unfold inB
    omega
  | n, .bool c, _, b, hb => by
    have : b = (if c then 2 else 1) := by simpa [byD] using hb
    unfold inB
    split at this <;> omega
  | n, .int i, _, b, hb => by
    have hb' : b ∈ (if 0 ≤ i then (3 : Int) :: wh i.toNat else 4 :: wh (-1 - i).toNat) := hb
    split at hb'
    · rcases List.mem_cons.mp hb' with e | e
      · unfold inB
        omega
      · exact wh_by _ _ (Nat.le_refl _) b e
    · rcases List.mem_cons.mp hb' with e | e
      · unfold inB
        omega
      · exact wh_by _ _ (Nat.le_refl _) b e
  | n, .str s, h, b, hb => by
    have hb' : b ∈ (5 : Int) :: (wh s.length ++ sgn s) := hb
    rcases List.mem_cons.mp hb' with e | e
    · unfold inB
      omega
    · rcases List.mem_append.mp e with e | e
      · exact wh_by _ _ (Nat.le_refl _) b e
      · have h' : okStr s = true := h
        unfold okStr at h'
        simp only [Bool.and_eq_true, decide_eq_true_eq] at h'
        have := List.all_eq_true.mp h'.2 b e
        unfold isSign at this
        simp only [Bool.and_eq_true, decide_eq_true_eq] at this
        unfold inB
        omega
  | n, .list _, h, b, hb => by simp [isPc] at h
  | n, .dict _, h, b, hb => by simp [isPc] at h
  | n, .tuple ds, h, b, hb => by
    simp only [isPc, Bool.and_eq_true, decide_eq_true_eq] at h
    have hb' : b ∈ (6 : Int) :: (wh ds.length ++ byAll ds) := hb
    rcases List.mem_cons.mp hb' with e | e
    · unfold inB
      omega
    · rcases List.mem_append.mp e with e | e
      · exact wh_by _ _ (Nat.le_refl _) b e
      · exact byAll_by ds h.2 b e
theorem byAll_by : ∀ {n : Nat} (ds : List PyData), isPcAll n ds = true → ∀ b ∈ byAll ds, inB b
  | n, [], _, b, hb => by cases hb
  | n, d :: ds, h, b, hb => by
    simp only [isPcAll, Bool.and_eq_true] at h
    have hb' : b ∈ byD d ++ byAll ds := hb
    rcases List.mem_append.mp hb' with e | e
    · exact byD_by d h.1 b e
    · exact byAll_by ds h.2 b e
end
def mkF (f b : Int) : Int := (f * 1000003 + b + 1) % 2305843009213693951
def markL (row : List Int) : Int := row.foldl mkF 1
theorem markL_snoc (r : List Int) (b : Int) : markL (r ++ [b]) = mkF (markL r) b := by
  unfold markL
  rw [List.foldl_append]
  rfl
theorem mkF_b (f b : Int) : 0 ≤ mkF f b ∧ mkF f b < 2305843009213693951 := ⟨Int.emod_nonneg _ (by decide), Int.emod_lt_of_pos _ (by decide)⟩
theorem fold_b : ∀ (row : List Int) (f : Int), 0 ≤ f ∧ f < 2305843009213693951 → 0 ≤ row.foldl mkF f ∧ row.foldl mkF f < 2305843009213693951
  | [], f, h => h
  | b :: row, f, h => fold_b row (mkF f b) (mkF_b f b)
theorem markL_b (row : List Int) : 0 ≤ markL row ∧ markL row < 2305843009213693951 := fold_b row 1 (by decide)
def sk : Nat → Int → List Int
  | 0, _ => []
  | k + 1, m => m % 256 :: sk k (m / 256)
def sealL (row : List Int) : List Int := sk 4 (markL row)
theorem sk_by : ∀ (k : Nat) (m : Int), ∀ b ∈ sk k m, inB b
  | 0, m, b, hb => by cases hb
  | k + 1, m, b, hb => by
    rcases List.mem_cons.mp (show b ∈ m % 256 :: sk k (m / 256) from hb) with e | e
    · unfold inB
      omega
    · exact sk_by k _ b e
theorem sk_len : ∀ (k : Nat) (m : Int), (sk k m).length = k
  | 0, m => rfl
  | k + 1, m => by
    show (sk k (m / 256)).length + 1 = k + 1
    rw [sk_len k]
theorem sealL_len (row : List Int) : (sealL row).length = 4 := sk_len 4 _
def body (row : List Int) : List Int := row.take (row.length - 4)
def tail4 (row : List Int) : List Int := row.drop (row.length - 4)
theorem body_tail (row : List Int) : body row ++ tail4 row = row := List.take_append_drop _ _
def SealOk (row : List Int) : Prop := sealL (body row) = tail4 row
theorem seal_iff (row : List Int) : SealOk row ↔ body row ++ sealL (body row) = row := by
  unfold SealOk
  constructor
  · intro h
    rw [h, body_tail]
  · intro h
    have := body_tail row
    exact List.append_cancel_left (h.trans this.symm)
theorem seal_len {row : List Int} (h : SealOk row) : 4 ≤ row.length := by
  have e := (seal_iff row).mp h
  rw [← e, List.length_append, sealL_len]
  omega
theorem seal_of (row : List Int) : SealOk (row ++ sealL row) ∧ body (row ++ sealL row) = row := by
  have e : body (row ++ sealL row) = row := by
    unfold body
    rw [List.length_append, sealL_len, Nat.add_sub_cancel, List.take_left]
  refine ⟨?_, e⟩
  rw [seal_iff, e]
theorem eqv_ints : ∀ xs ys : List Int, PyData.eqvAll (xs.map PyData.int) (ys.map PyData.int) = decide (xs = ys)
  | [], [] => rfl
  | [], y :: ys => rfl
  | x :: xs, [] => rfl
  | x :: xs, y :: ys => by
    show ((x == y) && PyData.eqvAll (xs.map PyData.int) (ys.map PyData.int)) = _
    rw [eqv_ints xs ys]
    by_cases h : x = y
    · subst h
      simp
    · simp [h]
theorem ints_lay : ∀ xs : List Int, PyData.canLayAll0 (xs.map PyData.int) = true
  | [] => rfl
  | x :: xs => by
    show (true && PyData.canLayAll0 (xs.map PyData.int)) = true
    rw [ints_lay xs]
    rfl
theorem ints_depth : ∀ xs : List Int, PyData.depthAll (xs.map PyData.int) = 0
  | [] => rfl
  | x :: xs => by
    show max 0 (PyData.depthAll (xs.map PyData.int)) = 0
    rw [ints_depth xs]
    rfl
theorem ints_shaped (xs : List Int) : SeqAt.shaped (.tuple (xs.map PyData.int)) = true := by
  unfold SeqAt.shaped
  show (PyData.canLayAll0 (xs.map PyData.int) && decide (PyData.depthAll (xs.map PyData.int) + 1 ≤ 64)) = true
  rw [ints_lay, ints_depth]
  rfl
/-- what a row is sealed of -/
def OpD (row : List Int) (D : PyData) : Prop :=
  (SealOk row ∧ ∃ d, Rd (body row) 20 0 (.ok d (body row).length) ∧ D = .tuple [d]) ∨
  ((¬ SealOk row ∨ (∃ e, Rd (body row) 20 0 (.bad e)) ∨ ∃ d e, Rd (body row) 20 0 (.ok d e) ∧ e ≠ (body row).length) ∧ D = .tuple [])
theorem opD_det {row : List Int} {D1 D2 : PyData} (a : OpD row D1) (b : OpD row D2) : D1 = D2 := by
  rcases a with ⟨a1, d1, r1, e1⟩ | ⟨a1, e1⟩
  · rcases b with ⟨b1, d2, r2, e2⟩ | ⟨b1, e2⟩
    · have := rd_det r1 r2
      injection this with z1 z2
      rw [e1, e2, z1]
    · rcases b1 with b1 | ⟨e, b1⟩ | ⟨d, e, b1, ne⟩
      · exact absurd a1 b1
      · have := rd_det r1 b1
        cases this
      · have := rd_det r1 b1
        injection this with z1 z2
        exact absurd z2.symm ne
  · rcases b with ⟨b1, d2, r2, e2⟩ | ⟨b1, e2⟩
    · rcases a1 with a1 | ⟨e, a1⟩ | ⟨d, e, a1, ne⟩
      · exact absurd b1 a1
      · have := rd_det r2 a1
        cases this
      · have := rd_det r2 a1
        injection this with z1 z2
        exact absurd z2.symm ne
    · rw [e1, e2]
end Mw

/-! R10 -/
namespace Mw
open PySem L2
/-- what a row tells as a whole -/
def spParcelOf (CP : Addr → Prop) (C CR : Addr) : Sp := fun vs H Q E => ∃ (a : Addr) (row : List Int), vs = [.ref a] ∧ RowAt H a row ∧
  (∀ d, Rd row 20 0 (.ok d row.length) → ∀ v H', Same H H' → Dt CP [] H' d v → Q v H') ∧
  (∀ d e, Rd row 20 0 (.ok d e) → e ≠ row.length → ∀ H', Same H H' → Raised C (.int (e : Nat)) H' E) ∧
  (∀ e, Rd row 20 0 (.bad e) → ∀ H', Same H H' → Raised C (.int (e : Nat)) H' E)
def spIpw (CP : Addr → Prop) (n : Nat) : Sp := fun vs H Q _ => ∃ (M : List Addr) (d : PyData) (x : V) (deep : Nat), vs = [.int (deep : Int), x] ∧ Dt CP M H d x ∧ deep < n ∧ szd d ≤ 900000 ∧ ∀ H', Same H H' → Q (.bl (isPc deep d)) H'
def spIsParcel (CP : Addr → Prop) : Sp := fun vs H Q _ => ∃ M d x, vs = [x] ∧ Dt CP M H d x ∧ szd d ≤ 900000 ∧ ∀ H', Same H H' → Q (.bl (isPc 20 d)) H'
def spRowOf (CP : Addr → Prop) (C : Addr) : Sp := fun vs H Q E => ∃ M d x, vs = [x] ∧ Dt CP M H d x ∧ szd d ≤ 900000 ∧ (isPc 20 d = true → (byD d).length ≤ 900000) ∧
  (isPc 20 d = true → ∀ t H', Same H H' → H' t = some (.tup ((byD d).map V.int)) → Q (.ref t) H') ∧ (isPc 20 d = false → ∀ H', Same H H' → E (.ref C) none H')
theorem row_dt {CP : Addr → Prop} {M : List Addr} {H : Hp} {a : Addr} {row : List Int} (h : H a = some (.tup (row.map V.int))) : Dt CP M H (.tuple (row.map PyData.int)) (.ref a) := dt_tup h (dt_ints row)
theorem row_isD {row : List Int} (h : ∀ b ∈ row, 0 ≤ b ∧ b < 256) : isRowD (.tuple (row.map PyData.int)) = true := by
  show ((row.map PyData.int).map isByte).all id = true
  rw [List.all_eq_true]
  intro x hx
  rw [List.map_map] at hx
  obtain ⟨b, hb, rfl⟩ := List.mem_map.mp hx
  have := h b hb
  show (decide (0 ≤ b) && decide (b < 256)) = true
  rw [decide_eq_true this.1, decide_eq_true this.2]
  rfl
section
variable {P : Program} {w : World} {K : PySem.W.Frag} {mg : Str → Option Value} {base : Heap}
local macro_rules | `(tactic| walk_at "rd") => `(tactic| (repeat (first
  | ((with_reducible refine' rd_var ?h0 ?_); (case h0 => rfl))
  | with_reducible refine rd_c ?_
  | with_reducible refine rd_op ?_
  | with_reducible refine rd_nil ?_
  | with_reducible refine rd_cons ?_
  | with_reducible refine rd_tup ?_
  | with_reducible refine rd_lst ?_
  | with_reducible refine rd_ifs ?_
  | with_reducible refine rd_seq ?_
  | with_reducible refine rd_next ?_
  | with_reducible refine rd_ret ?_
  | with_reducible refine rd_asg ?_
  | ((with_reducible refine' rd_gset ?hs ?_); (case hs => ((simp only [L2.start, List.map_cons, List.map_nil, List.length_cons, List.length_nil, List.cons_append, List.nil_append, List.set_cons_zero, List.set_cons_succ, Nat.reduceAdd, Nat.reduceSub, Nat.zero_add, List.reduceReplicate]); rfl)))
  | with_reducible refine rd_drop ?_
  | with_reducible refine rd_test ?_
  | with_reducible refine rd_B ?_
  | with_reducible refine rd_bl ?_
  | with_reducible refine rd_blP ?_
  | with_reducible refine rd_andV ?_
  | with_reducible refine rd_orV ?_
  | with_reducible refine rd_notV ?_
  | with_reducible refine rd_and ?_
  | with_reducible refine rd_or ?_
  | with_reducible refine rd_not ?_
  | with_reducible refine rd_chain ?_
  | with_reducible refine rd_dput ?_
  | with_reducible refine rd_dget ?_
  | with_reducible refine rd_cb ?_
  | with_reducible refine rd_call ?_
  | with_reducible refine rd_un ?_
  | with_reducible refine rd_sl ?_
  | with_reducible refine rd_nopart ?_
  | with_reducible refine rd_part ?_
  | with_reducible refine rd_intP ?_
  | with_reducible refine rd_rU ?_
  | with_reducible refine rd_fld ?_
  | with_reducible refine rd_eqI ?_
  | with_reducible refine rd_neI ?_
  | with_reducible refine rd_mko ?_
  | with_reducible refine rd_bm ?_
  | with_reducible refine rd_gsub ?_
  | with_reducible refine rd_i0 ?_)))
theorem pa_of (T : Tx K mg) (B : Bk K mg T) {n k : Nat} (hk : 5 ≤ k) (G_tuple_at : FnOk P w K mg base (L2.CX P w) k B.tuple_at.f B.tuple_at.fd ["row", "place", "many", "deep"] (spTA T.CP T.c_BadRow n)) :
    FnOk P w K mg base (L2.CX P w) (k + 1) B.parcel_at.f B.parcel_at.fd ["row", "place", "deep"] (spPA T.CP T.c_BadRow n) := by
  have G_check_there := ok_check_there (P := P) (w := w) (base := base) T B
  have G_whole_at := ok_whole_at (P := P) (w := w) (base := base) T B
  have G_string_at := ok_string_at (P := P) (w := w) (base := base) T B
  have G_BadRow_init := ok_bad_init (P := P) (w := w) (base := base) T B
  refine B.parcel_at.F.okX sc_parcel_at (fun vs H Q E h => ?_) (fun cdv A outer s H vs Q E hr h => ?_)
  · obtain ⟨a, row, h, rfl, _⟩ := h
    rfl
  · obtain ⟨a, row, h, rfl, ha, q1, q0⟩ := h
    refine ⟨_, (pss_cons (ps_expr (pe_call G_check_there (hr.mono (by omega)) rfl B.check_there.m B.check_there.F.kp B.check_there.b .nil (passes_call (takes_of rfl rfl rfl rfl) (fun _ _ _ _ h => h)) (pa_cons (pv 0) (pa_cons (pv 1) pa_nil))))
      (pss_cons (ps_set (i := 3) sc_parcel_at.nd rfl (Or.inl rfl) (pe_ix ix_tup (pv 0) (pv 1) (fun _ _ => rfl)))
      (C8.pss_cut (ps_if (PW.pt (pw_or (pt_cmpR op_gt (pv 3) (pe_glob (v := .int 6) (by rfl) T.g_TUPLE ⟨_, rfl⟩) (nomark _)) (pw_or1 (PW.pt (pw_and (pt_cmpR op_eq (pv 3) (pe_glob (v := .int 6) (by rfl) T.g_TUPLE ⟨_, rfl⟩) (nomark _)) (pw_and1 (pt_cmpR op_eq (pv 2) pe_int (nomark _)))))))) (pss_one (ps_raise rfl (takes_of rfl rfl rfl rfl) (pmk_oex T.x_BadRow B.BadRow_init.a B.BadRow_init.t G_BadRow_init (hr.mono (by omega)) B.BadRow_init.b .nil pass0 rfl T.g_BadRow (pa_cons (pv 1) pa_nil)))) pss_nil)
      (pss_cons (ps_if (pt_cmpR op_eq (pv 3) (pe_glob (v := .int 0) (by rfl) T.g_NONE ⟨_, rfl⟩) (nomark _)) (pss_one (ps_ret (pe_tup (pa_cons pe_non (pa_cons (pe_op op_add (pv 1) pe_int) pa_nil))))) pss_nil)
      (pss_cons (ps_if (pt_cmpR op_in_seq (pv 3) (pe_tup (pa_cons (pe_glob (v := .int 1) (by rfl) T.g_NO ⟨_, rfl⟩) (pa_cons (pe_glob (v := .int 2) (by rfl) T.g_YES ⟨_, rfl⟩) pa_nil))) rfl) (pss_one (ps_ret (pe_tup (pa_cons (pe_cmpR op_eq (pv 3) (pe_glob (v := .int 2) (by rfl) T.g_YES ⟨_, rfl⟩) (nomark _)) (pa_cons (pe_op op_add (pv 1) pe_int) pa_nil))))) pss_nil)
      (pss_cons (ps_asg (pe_call G_whole_at (hr.mono (by omega)) rfl B.whole_at.m B.whole_at.F.kp B.whole_at.b .nil (passes_call (takes_of rfl rfl rfl rfl) (fun _ _ _ _ h => h)) (pa_cons (pv 0) (pa_cons (pe_op op_add (pv 1) pe_int) pa_nil))) (pg_tup (by rfl) (pgs_cons (pg_name (i := 4) sc_parcel_at.nd rfl (Or.inl rfl)) (pgs_cons (pg_name (i := 5) sc_parcel_at.nd rfl (Or.inl rfl)) pgs_nil))))
      (pss_cons (ps_if (pt_cmpR op_eq (pv 3) (pe_glob (v := .int 5) (by rfl) T.g_STRING ⟨_, rfl⟩) (nomark _)) (C8.pss_cut (ps_if (PW.pt (pw_or (pt_cmpR op_eq (pv 4) pe_int (nomark _)) (pw_or1 (pt_cmpR op_gt (pv 4) (pe_glob (v := .int 20) (by rfl) T.g_MOST_SIGNS ⟨_, rfl⟩) (nomark _))))) (pss_one (ps_raise rfl (takes_of rfl rfl rfl rfl) (pmk_oex T.x_BadRow B.BadRow_init.a B.BadRow_init.t G_BadRow_init (hr.mono (by omega)) B.BadRow_init.b .nil pass0 rfl T.g_BadRow (pa_cons (pe_op op_add (pv 1) pe_int) pa_nil)))) pss_nil)
      (pss_one (ps_ret (pe_call G_string_at (hr.mono (by omega)) rfl B.string_at.m B.string_at.F.kp B.string_at.b .nil (passes_call (takes_of rfl rfl rfl rfl) (fun _ _ _ _ h => h)) (pa_cons (pv 0) (pa_cons (pv 5) (pa_cons (pv 4) pa_nil))))))) pss_nil)
      (pss_cons (ps_if (pt_cmpR op_eq (pv 3) (pe_glob (v := .int 6) (by rfl) T.g_TUPLE ⟨_, rfl⟩) (nomark _)) (pss_one (ps_ret (pe_call G_tuple_at (hr.mono (by omega)) rfl B.tuple_at.m B.tuple_at.F.kp B.tuple_at.b .nil (passes_call (takes_of rfl rfl rfl rfl) (fun _ _ _ _ h => h)) (pa_cons (pv 0) (pa_cons (pv 5) (pa_cons (pv 4) (pa_cons (pv 2) pa_nil))))))) pss_nil)
      (pss_one (ps_ret (pe_tup (pa_cons (pe_ifExp (pt_cmpR op_eq (pv 3) (pe_glob (v := .int 3) (by rfl) T.g_FROM_ZERO ⟨_, rfl⟩) (nomark _)) (pv 4) (pe_op op_sub (pe_un un_neg pe_int) (pv 4))) (pa_cons (pv 5) pa_nil))))))))))))), ?_⟩
    walk_at "rd"
    refine ⟨a, row, h, rfl, ha, fun hlt => ?_, fun hge => q0 _ (rdd.mpr (rdB_none hge)) _ (Same.refl H)⟩
    obtain ⟨b, eb, ebv⟩ := row_get hlt
    have b0 := (ha.2 b (List.mem_of_getElem? eb)).1
    walk_at "rd"
    refine rd_ixT ha.1 (atI_nat ebv) ?_
    walk_at "rd"
    have hin : (inn row n).isNone = true ↔ n = 0 := by
      cases n with
      | zero => exact ⟨fun _ => rfl, fun _ => rfl⟩
      | succ n => exact ⟨fun z => (by cases z), fun z => (by cases z)⟩
    refine ⟨fun σ1 H1 => σ1 = [some (.ref a), some (.int (h : Int)), some (.int (n : Int)), some (.int b), none, none] ∧ H1 = H ∧ ¬ (6 < b ∨ (b = 6 ∧ (inn row n).isNone = true)), ?_, ?_⟩
    · have bad : (6 < b ∨ (b = 6 ∧ n = 0)) → Raised T.c_BadRow (.int (h : Int)) H E := fun z => q0 h (rdd.mpr (rdB_top eb (by rw [hin]; exact z))) _ (Same.refl H)
      walk_at "rd"
      refine rd_ite (fun h1 => ?_) (fun h1 => ?_)
      · refine rd_yes rfl ?_
        walk_at "rd"
        exact bad_made (bad (.inl (of_decide_eq_true h1)))
      · have h1' := of_decide_eq_false h1
        walk_at "rd"
        refine rd_ite (fun h2 => ?_) (fun h2 => ?_)
        · walk_at "rd"
          refine rd_ite (fun h3 => ?_) (fun h3 => ?_)
          · walk_at "rd"
            exact bad_made (bad (.inr ⟨of_decide_eq_true h2, by have := of_decide_eq_true h3; omega⟩))
          · refine ⟨rfl, rfl, fun z => ?_⟩
            have := of_decide_eq_false h3
            rw [hin] at z
            omega
        · refine rd_no rfl ?_
          refine ⟨rfl, rfl, fun z => ?_⟩
          have := of_decide_eq_false h2
          rw [hin] at z
          omega
    · rintro σ1 H1 ⟨rfl, rfl, hnb⟩
      walk_at "rd"
      refine rd_ite (fun h1 => ?_) (fun h1 => ?_)
      · have e0 : b = 0 := of_decide_eq_true h1
        walk_at "rd"
        refine rd_disp rfl fun t nt => ?_
        refine q1 .none (h + 1) (rdd.mpr ?_) t .non _ (same_new nt) upd_same dt_non
        have := rdB_low (R := inn row n) eb (by omega)
        rw [if_pos e0] at this
        exact this
      · have e0 : b ≠ 0 := of_decide_eq_false h1
        walk_at "rd"
        refine rd_disp rfl fun t nt => ?_
        have s1 := same_new (o := .tup [.int 1, .int 2]) nt
        refine ⟨t, _, rfl, .inr (SqT.of upd_same), rfl, rfl, ?_⟩
        have ein : (if false = true then !inV (V.int b) [.int 1, .int 2] else inV (V.int b) [.int 1, .int 2]) = (decide (b = 1) || decide (b = 2)) := by
          show ((1 == b) || ((2 == b) || false)) = _
          rw [Bool.or_false]
          have g : ∀ x : Int, (x == b) = decide (b = x) := fun x => by
            by_cases c : b = x
            · subst c
              simp
            · rw [decide_eq_false c]
              simpa using fun z => c z.symm
          rw [g, g]
        rw [ein]
        walk_at "rd"
        refine rd_ite (fun h2 => ?_) (fun h2 => ?_)
        · have e12 : b = 1 ∨ b = 2 := by simpa using h2
          walk_at "rd"
          refine rd_disp rfl fun t2 nt2 => ?_
          refine q1 (.bool (decide (b = 2))) (h + 1) (rdd.mpr ?_) t2 (.bl (decide (b = 2))) _ (s1.trans (same_new nt2)) upd_same dt_bl
          have := rdB_low (R := inn row n) eb (by omega)
          rw [if_neg e0] at this
          exact this
        · have e12 : ¬ (b = 1 ∨ b = 2) := by simpa using h2
          have b3 : ¬ b < 3 := by omega
          have ha1 := ha.same s1
          walk_at "rd"
          refine ⟨a, row, h + 1, rfl, ha1, hlt, fun m e hw t2 H2 s2 ht2 => ?_, fun hw => ?_⟩
          · have hm0 := whR_nn hw
            have hle := whR_le hw
            have s12 := s1.trans s2
            refine ⟨t2, _, rfl, SqT.of ht2, rfl, _, _, rfl, _, _, rfl, rfl, ?_⟩
            walk_at "rd"
            refine rd_ite (fun h3 => ?_) (fun h3 => ?_)
            · have e5 : b = 5 := of_decide_eq_true h3
              walk_at "rd"
              refine ⟨fun σ3 H3 => σ3 = [some (.ref a), some (.int (h : Int)), some (.int (n : Int)), some (.int b), some (.int m), some (.int (e : Nat))] ∧ H3 = H2 ∧ ¬ (m = 0 ∨ 20 < m), ?_, ?_⟩
              · have bad : (m = 0 ∨ 20 < m) → Raised T.c_BadRow (.int ((h : Int) + 1)) H2 E := fun z => by
                  have := q0 (h + 1) (rdd.mpr (rdB_s0 eb e5 hw z)) _ s12
                  rw [show ((h + 1 : Nat) : Int) = (h : Int) + 1 by omega] at this
                  exact this
                walk_at "rd"
                refine rd_ite (fun h4 => ?_) (fun h4 => ?_)
                · refine rd_yes rfl ?_
                  walk_at "rd"
                  exact bad_made (bad (.inl (of_decide_eq_true h4)))
                · walk_at "rd"
                  refine rd_ite (fun h5 => ?_) (fun h5 => ?_)
                  · walk_at "rd"
                    exact bad_made (bad (.inr (of_decide_eq_true h5)))
                  · refine ⟨rfl, rfl, fun z => ?_⟩
                    have := of_decide_eq_false h4
                    have := of_decide_eq_false h5
                    omega
              · rintro σ3 H3 ⟨rfl, rfl, hm⟩
                have hS := rdB_s1 (R := inn row n) eb e5 hw hm
                obtain ⟨m', rfl⟩ : ∃ m' : Nat, m = (m' : Int) := ⟨m.toNat, by omega⟩
                rw [Int.toNat_natCast] at hS
                walk_at "rd"
                refine ⟨a, row, e, m', rfl, ha.same s12, hle.2, by omega, fun cs e3 hst t3 H4 s4 ht3 => ?_, fun e3 hst H4 s4 => ?_⟩
                · rw [hst] at hS
                  exact q1 _ _ (rdd.mpr hS) t3 _ _ (s12.trans s4) ht3 dt_str
                · rw [hst] at hS
                  exact q0 _ (rdd.mpr hS) _ (s12.trans s4)
            · have e5 : b ≠ 5 := of_decide_eq_false h3
              walk_at "rd"
              refine rd_ite (fun h4 => ?_) (fun h4 => ?_)
              · have e6 : b = 6 := of_decide_eq_true h4
                obtain ⟨n', rfl⟩ : ∃ n', n = n' + 1 := ⟨n - 1, by
                  have : ¬ n = 0 := fun z => hnb (.inr ⟨e6, hin.mpr z⟩)
                  omega⟩
                obtain ⟨m', rfl⟩ : ∃ m' : Nat, m = (m' : Int) := ⟨m.toNat, by omega⟩
                walk_at "rd"
                refine ⟨a, row, e, m', n', rfl, rfl, ha.same s12, hle.2, fun ds e3 hI t3 v H4 s4 ht3 hv => ?_, fun e3 hI H4 s4 => ?_⟩
                · exact q1 (.tuple ds) _ (rdd.mpr (rdB_tup (r := .ok ds e3) eb e6 hw hI)) t3 _ _ (s12.trans s4) ht3 hv
                · exact q0 _ (rdd.mpr (rdB_tup (r := .bad e3) eb e6 hw hI)) _ (s12.trans s4)
              · have e6 : b ≠ 6 := of_decide_eq_false h4
                have hI := rdB_int (R := inn row n) eb b3 (by omega) hw
                walk_at "rd"
                refine rd_ifx ?_
                walk_at "rd"
                refine rd_ite (fun h5 => ?_) (fun h5 => ?_)
                · rw [if_pos (of_decide_eq_true h5)] at hI
                  walk_at "rd"
                  refine rd_disp rfl fun t3 nt3 => ?_
                  exact q1 (.int m) e (rdd.mpr hI) t3 (.int m) _ (s12.trans (same_new nt3)) upd_same dt_int
                · rw [if_neg (of_decide_eq_false h5)] at hI
                  walk_at "rd"
                  refine rd_disp rfl fun t3 nt3 => ?_
                  exact q1 (.int (-1 - m)) e (rdd.mpr hI) t3 (.int (-1 - m)) _ (s12.trans (same_new nt3)) upd_same dt_int
          · have := q0 (h + 1) (rdd.mpr (rdB_wh eb hnb b3 hw)) _ s1
            exact this
theorem ok_pa_n (T : Tx K mg) (B : Bk K mg T) : ∀ n, FnOk P w K mg base (L2.CX P w) (2 * n + 6) B.parcel_at.f B.parcel_at.fd ["row", "place", "deep"] (spPA T.CP T.c_BadRow n)
  | 0 => pa_of T B (k := 5) (by omega) (fn_no fun vs H Q E h => by
    obtain ⟨a, row, h, m, n', hn, _⟩ := h
    omega)
  | n + 1 => pa_of T B (k := 2 * n + 7) (by omega) (ta_of T B (by omega) (ok_pa_n T B n))
end
end Mw

/-! R11 -/
namespace Mw
open PySem L2
def spMarkOf : Sp := fun vs H Q _ => ∃ (a : Addr) (row : List Int), vs = [.ref a] ∧ H a = some (.tup (row.map V.int)) ∧ Q (.int (markL row)) H
def spSeal : Sp := fun vs H Q _ => ∃ (a : Addr) (row : List Int), vs = [.ref a] ∧ H a = some (.tup (row.map V.int)) ∧ ∀ t H', Same H H' → H' t = some (.tup ((sealL row).map V.int)) → Q (.ref t) H'
def spMark (CP : Addr → Prop) : Sp := fun vs H Q _ => ∃ (a : Addr) (row : List Int), vs = [.ref a] ∧ RowAt H a row ∧ ∀ H', Same H H' → Q (.int (markL row)) H'
def spSealed (CP : Addr → Prop) (C : Addr) : Sp := fun vs H Q E => ∃ M d x, vs = [x] ∧ Dt CP M H d x ∧ szd d ≤ 900000 ∧ (isPc 20 d = true → (byD d).length ≤ 800000) ∧
  (isPc 20 d = true → ∀ t H', Same H H' → H' t = some (.tup ((byD d ++ sealL (byD d)).map V.int)) → Q (.ref t) H') ∧ (isPc 20 d = false → ∀ H', Same H H' → E (.ref C) none H')
section
variable {P : Program} {w : World} {K : PySem.W.Frag} {mg : Str → Option Value} {base : Heap}
local macro_rules | `(tactic| walk_at "rd") => `(tactic| (repeat (first
  | ((with_reducible refine' rd_var ?h0 ?_); (case h0 => rfl))
  | with_reducible refine rd_c ?_
  | with_reducible refine rd_op ?_
  | with_reducible refine rd_nil ?_
  | with_reducible refine rd_cons ?_
  | with_reducible refine rd_tup ?_
  | with_reducible refine rd_lst ?_
  | with_reducible refine rd_ifs ?_
  | with_reducible refine rd_seq ?_
  | with_reducible refine rd_next ?_
  | with_reducible refine rd_ret ?_
  | with_reducible refine rd_asg ?_
  | ((with_reducible refine' rd_gset ?hs ?_); (case hs => ((simp only [L2.start, List.map_cons, List.map_nil, List.length_cons, List.length_nil, List.cons_append, List.nil_append, List.set_cons_zero, List.set_cons_succ, Nat.reduceAdd, Nat.reduceSub, Nat.zero_add, List.reduceReplicate]); rfl)))
  | with_reducible refine rd_drop ?_
  | with_reducible refine rd_test ?_
  | with_reducible refine rd_B ?_
  | with_reducible refine rd_bl ?_
  | with_reducible refine rd_blP ?_
  | with_reducible refine rd_andV ?_
  | with_reducible refine rd_orV ?_
  | with_reducible refine rd_notV ?_
  | with_reducible refine rd_and ?_
  | with_reducible refine rd_or ?_
  | with_reducible refine rd_not ?_
  | with_reducible refine rd_chain ?_
  | with_reducible refine rd_dput ?_
  | with_reducible refine rd_dget ?_
  | with_reducible refine rd_cb ?_
  | with_reducible refine rd_call ?_
  | with_reducible refine rd_un ?_
  | with_reducible refine rd_sl ?_
  | with_reducible refine rd_nopart ?_
  | with_reducible refine rd_part ?_
  | with_reducible refine rd_intP ?_
  | with_reducible refine rd_rU ?_
  | with_reducible refine rd_fld ?_
  | with_reducible refine rd_eqI ?_
  | with_reducible refine rd_neI ?_
  | with_reducible refine rd_mko ?_
  | with_reducible refine rd_bm ?_
  | with_reducible refine rd_gsub ?_
  | with_reducible refine rd_i0 ?_)))
theorem ok_parcel_of (T : Tx K mg) (B : Bk K mg T) : FnOk P w K mg base (L2.CX P w) 47 B.parcel_of.f B.parcel_of.fd ["row"] (spParcelOf T.CP T.c_BadRow T.c_NoRow) := by
  have G_check_row := ok_check_row (P := P) (w := w) (base := base) T B
  have G_parcel_at := ok_pa_n (P := P) (w := w) (base := base) T B 20
  have G_BadRow_init := ok_bad_init (P := P) (w := w) (base := base) T B
  refine B.parcel_of.F.okX sc_parcel_of (fun vs H Q E h => ?_) (fun cdv A outer s H vs Q E hr h => ?_)
  · obtain ⟨a, row, rfl, _⟩ := h
    rfl
  · obtain ⟨a, row, rfl, ha, q1, q2, q3⟩ := h
    refine ⟨_, (pss_cons (ps_expr (pe_call G_check_row (hr.mono (by omega)) rfl B.check_row.m B.check_row.F.kp B.check_row.b .nil (passes_call (takes_of rfl rfl rfl rfl) (fun _ _ _ _ h => h)) (pa_cons (pv 0) pa_nil)))
      (pss_cons (ps_asg (pe_call G_parcel_at (hr.mono (by omega)) rfl B.parcel_at.m B.parcel_at.F.kp B.parcel_at.b .nil (passes_call (takes_of rfl rfl rfl rfl) (fun _ _ _ _ h => h)) (pa_cons (pv 0) (pa_cons pe_int (pa_cons (pe_glob (v := .int 20) (by rfl) T.g_MOST_DEEP ⟨_, rfl⟩) pa_nil)))) (pg_tup (by rfl) (pgs_cons (pg_name (i := 1) sc_parcel_of.nd rfl (Or.inl rfl)) (pgs_cons (pg_name (i := 2) sc_parcel_of.nd rfl (Or.inl rfl)) pgs_nil))))
      (pss_cons (ps_if (pt_cmpR op_lt (pv 2) (pe_callB call_len_seq (by rfl) T.b_len (by decide +kernel) (pa_cons (pv 0) pa_nil)) (nomark _)) (pss_one (ps_raise rfl (takes_of rfl rfl rfl rfl) (pmk_oex T.x_BadRow B.BadRow_init.a B.BadRow_init.t G_BadRow_init (hr.mono (by omega)) B.BadRow_init.b .nil pass0 rfl T.g_BadRow (pa_cons (pv 2) pa_nil)))) pss_nil)
      (pss_one (ps_ret (pv 1)))))), ?_⟩
    walk_at "rd"
    refine ⟨[], _, .ref a, rfl, row_dt ha.1, by show (row.map PyData.int).length ≤ 900000; rw [List.length_map]; exact ha.3, fun H1 s1 => ⟨fun _ => ?_, fun z => ?_⟩⟩
    · walk_at "rd"
      refine ⟨a, row, 0, rfl, ha.same s1, fun d e hR t v H2 s2 ht hv => ?_, fun e hR H2 s2 => ?_⟩
      · have hle := rd_le hR
        have s12 := s1.trans s2
        refine ⟨t, _, rfl, SqT.of ht, rfl, _, _, rfl, _, _, rfl, rfl, ?_⟩
        walk_at "rd"
        refine ⟨a, _, rfl, .inr (SqT.of (s12 _ _ ha.1)), ?_⟩
        walk_at "rd"
        rw [List.length_map]
        refine rd_ite (fun h1 => ?_) (fun h1 => ?_)
        · walk_at "rd"
          exact bad_made (q2 d e hR (by have := of_decide_eq_true h1; omega) _ s12)
        · have e2 : e = row.length := by
            have := of_decide_eq_false h1
            omega
          subst e2
          walk_at "rd"
          exact q1 d hR v _ s12 hv
      · exact q3 e hR _ (s1.trans s2)
    · rw [row_isD ha.2] at z
      cases z
theorem ipw_step (T : Tx K mg) (B : Bk K mg T) {n k : Nat} (hk : 2 ≤ k) (G_is_parcel_within : FnOk P w K mg base CX0 k B.is_parcel_within.f B.is_parcel_within.fd ["deep", "thing"] (spIpw T.CP n)) :
    FnOk P w K mg base CX0 (k + 1) B.is_parcel_within.f B.is_parcel_within.fd ["deep", "thing"] (spIpw T.CP (n + 1)) := by
  have G_is_sign := ok_is_sign (P := P) (w := w) (base := base) T B
  refine B.is_parcel_within.F.ok sc_is_parcel_within (fun vs H Q E h => ?_) (fun cdv A outer s H vs Q E hr h => ?_)
  · obtain ⟨M, d, x, deep, rfl, _⟩ := h
    rfl
  · obtain ⟨M, d, x, deep, rfl, hd, hn, hz, q⟩ := h
    refine ⟨_, (pss_cons (ps_if (pt_val (pe_callB call_isi (by rfl) T.b_isinstance (by decide +kernel) (pa_cons (pv 1) (pa_cons (pe_bltn (v := .ty "tuple") (by rfl) T.b_tuple (by decide +kernel) rfl) pa_nil)))) (pss_one (ps_ret (pe_and (pe_cmpR op_gt (pv 0) pe_int (nomark _)) (pe_one (pe_callB (cr_all rfl) (by rfl) T.b_all (by decide +kernel) (pa_cons (pe_lc (own := [("item", 2)]) (g := gName 2) rfl sc_is_parcel_within.nd (pi_tup (pv 1)) (blkOk_by (own := [("item", 2)]) (N := ["deep", "thing", "item", "sign"]) (sc := defScope s_is_parcel_within) (by decide +kernel)) (fun _ _ _ _ _ => pg_name (i := 2) sc_is_parcel_within.nd rfl (Or.inl rfl)) (fun _ _ _ _ _ => pts_nil) (fun _ _ _ _ _ => (pe_call G_is_parcel_within (hr.mono (by omega)) rfl B.is_parcel_within.m B.is_parcel_within.F.kp B.is_parcel_within.b .nil pass0 (pa_cons (pe_op op_sub (pv 0) pe_int) (pa_cons (pv 2) pa_nil))))) pa_nil)))))) pss_nil)
      (pss_cons (ps_if (pt_val (pe_callB call_isi (by rfl) T.b_isinstance (by decide +kernel) (pa_cons (pv 1) (pa_cons (pe_bltn (v := .ty "str") (by rfl) T.b_str (by decide +kernel) rfl) pa_nil)))) (pss_one (ps_ret (pe_and (pe_chain op_lt op_le pe_int (pe_callB call_len_str (by rfl) T.b_len (by decide +kernel) (pa_cons (pv 1) pa_nil)) (pe_glob (v := .int 20) (by rfl) T.g_MOST_SIGNS ⟨_, rfl⟩)) (pe_one (pe_callB (cr_all rfl) (by rfl) T.b_all (by decide +kernel) (pa_cons (pe_lc (own := [("sign", 3)]) (g := gName 3) rfl sc_is_parcel_within.nd (pi_str (pv 1)) (blkOk_by (own := [("sign", 3)]) (N := ["deep", "thing", "item", "sign"]) (sc := defScope s_is_parcel_within) (by decide +kernel)) (fun _ _ _ _ _ => pg_name (i := 3) sc_is_parcel_within.nd rfl (Or.inl rfl)) (fun _ _ _ _ _ => pts_nil) (fun _ _ _ _ _ => (pe_call G_is_sign (hr.mono (by omega)) rfl B.is_sign.m B.is_sign.F.kp B.is_sign.b .nil pass0 (pa_cons (pe_callB call_ord (by rfl) T.b_ord (by decide +kernel) (pa_cons (pv 3) pa_nil)) pa_nil)))) pa_nil)))))) pss_nil)
      (pss_one (ps_ret (pe_or (pe_cmpR op_isN (pv 1) pe_non (nomark _)) (pe_one (pe_callB call_isi (by rfl) T.b_isinstance (by decide +kernel) (pa_cons (pv 1) (pa_cons (pe_bltn (v := .ty "int") (by rfl) T.b_int (by decide +kernel) rfl) pa_nil))))))))), ?_⟩
    walk_at "rd"
    have q0 := q H (Same.refl H)
    refine dt_isT T.W hd ?_
    walk_at "rd"
    have hd' := hd
    cases d with
    | tuple ds =>
      obtain ⟨a, xs, rfl, ha, hx⟩ := dt_tup' hd'
      have hlx := hx.len
      have hz' : szdAll ds + 1 ≤ 900000 := hz
      have hlen := szdAll_len ds
      refine rd_yes rfl ?_
      walk_at "rd"
      have e : isPc deep (.tuple ds) = (decide (0 < deep) && isPcAll (deep - 1) ds) := rfl
      rw [e] at q0
      refine rd_ite (fun h1 => ?_) (fun h1 => ?_)
      · have hdp : 0 < deep := by
          have := of_decide_eq_true h1
          omega
        walk_at "rd"
        show iTup _ _ _ _ _
        refine rd_itup ?_
        walk_at "rd"
        refine ⟨a, rfl, ⟨xs, SqT.of ha⟩, fun D hD => lc_tup (K := K) (a := a) (xs := xs) (fun i H1 => Same H H1 ∧ H1 D = some (.lst (((ds.take i).map (isPc (deep - 1))).map V.bl))) ⟨same_new hD, upd_same⟩ (fun i H1 _ hh => SqT.of (hh.1 _ _ ha)) ?_ ?_⟩
        · rintro i y H1 hi ⟨hs, hacc⟩
          obtain ⟨d1, hd1, td1⟩ := hx.get' hi
          have := szdAll_get hd1
          refine ⟨rfl, ?_⟩
          refine rd_tyes ?_
          refine rd_yes rfl ?_
          walk_at "rd"
          refine ⟨M, d1, y, deep - 1, ?_, td1.s hs, by omega, by omega, fun H2 s2 => ?_⟩
          · rw [show ((deep : Int) - 1) = ((deep - 1 : Nat) : Int) by omega]
            rfl
          · refine ⟨_, s2 _ _ hacc, small' (by rw [List.length_map, List.length_map, List.length_take]; omega), fun b o e => (upd_ne (ne_of_none e hD)).trans (s2 b o (hs b o e)), ?_⟩
            rw [upd_same, take_snoc hd1, List.map_append, List.map_append]
            rfl
        · rintro H1 ⟨hs, hacc⟩
          rw [← hlx, List.take_length] at hacc
          refine ⟨D, _, rfl, SqL.of hacc, ?_⟩
          have z := q H1 hs
          rw [e, decide_eq_true hdp, Bool.true_and] at z
          have e2 : isPcAll (deep - 1) ds = (ds.map (isPc (deep - 1))).all id := by
            clear z hacc q q0 e hd hd' hx hlx hz hz' hlen
            induction ds with
            | nil => rfl
            | cons d ds ih =>
              show (isPc (deep - 1) d && isPcAll (deep - 1) ds) = _
              rw [ih]
              rfl
          rw [e2] at z
          exact z
      · have hdp : ¬ 0 < deep := by
          have := of_decide_eq_false h1
          omega
        rw [decide_eq_false hdp, Bool.false_and] at q0
        exact q0
    | str z =>
      cases dt_str' hd'
      have hz' : z.length + 1 ≤ 900000 := hz
      refine rd_no rfl ?_
      walk_at "rd"
      refine dt_isS T.W hd ?_
      walk_at "rd"
      refine rd_yes rfl ?_
      walk_at "rd"
      have e : isPc deep (.str z) = ((decide (0 < z.length) && decide (z.length ≤ 20)) && (sgn z).all isSign) := rfl
      rw [e] at q0
      refine ⟨z, rfl, small (by omega), ?_⟩
      walk_at "rd"
      refine rd_ite (fun h1 => ?_) (fun h1 => ?_)
      · have h1' : 0 < z.length := by
          have := of_decide_eq_true h1
          omega
        walk_at "rd"
        refine rd_ite (fun h2 => ?_) (fun h2 => ?_)
        · have h2' : z.length ≤ 20 := by
            have := of_decide_eq_true h2
            omega
          walk_at "rd"
          show iStr _ _ _ _
          refine rd_istr ?_
          walk_at "rd"
          refine ⟨z, rfl, fun D hD => lc_it walk_str (fun i H2 => Same H H2 ∧ H2 D = some (.lst ((((sgn z).take i).map isSign).map V.bl)))
            ⟨same_new hD, upd_same⟩ (fun _ _ _ _ => trivial) ?_ ?_⟩
          · rintro i y H2 H3 hi ⟨hs, hacc⟩ ⟨rfl, c, hc, rfl⟩
            refine ⟨rfl, ?_⟩
            refine rd_tyes ?_
            refine rd_yes rfl ?_
            walk_at "rd"
            refine ⟨_, rfl, rfl, ?_⟩
            walk_at "rd"
            refine ⟨(c : Int), rfl, ?_⟩
            have hsg : (sgn z)[i]? = some (c : Int) := by
              unfold sgn
              rw [List.getElem?_map, Array.getElem?_toList, hc]
              rfl
            refine ⟨_, hacc, small' (by rw [List.length_map, List.length_map, List.length_take, sgn_len]; omega), fun b o eb => (upd_ne (ne_of_none eb hD)).trans (hs b o eb), ?_⟩
            rw [upd_same, take_snoc hsg, List.map_append, List.map_append]
            rfl
          · rintro H2 ⟨hs, hacc⟩
            rw [List.take_of_length_le (by rw [sgn_len]; exact Nat.le_refl _)] at hacc
            refine ⟨D, _, rfl, SqL.of hacc, ?_⟩
            have zz := q H2 hs
            rw [e, decide_eq_true h1', decide_eq_true h2', Bool.true_and, Bool.true_and] at zz
            have e2 : ((sgn z).map isSign).all id = (sgn z).all isSign := by
              rw [List.all_map]
              rfl
            rw [← e2] at zz
            exact zz
        · have h2' : ¬ z.length ≤ 20 := by
            have := of_decide_eq_false h2
            omega
          rw [decide_eq_false h2', Bool.and_false, Bool.false_and] at q0
          exact q0
      · have h1' : ¬ 0 < z.length := by
          have := of_decide_eq_false h1
          omega
        rw [decide_eq_false h1', Bool.false_and, Bool.false_and] at q0
        walk_at "rd"
        exact q0
    | none =>
      cases dt_non' hd'
      refine rd_no rfl ?_
      walk_at "rd"
      refine dt_isS T.W hd ?_
      walk_at "rd"
      refine rd_no rfl ?_
      walk_at "rd"
      refine ⟨rfl, ?_⟩
      walk_at "rd"
      refine rd_yes rfl ?_
      exact q0
    | bool b =>
      cases dt_bl' hd'
      refine rd_no rfl ?_
      walk_at "rd"
      refine dt_isS T.W hd ?_
      walk_at "rd"
      refine rd_no rfl ?_
      walk_at "rd"
      refine ⟨rfl, ?_⟩
      walk_at "rd"
      refine rd_no rfl ?_
      walk_at "rd"
      refine dt_isI T.W hd ?_
      exact q0
    | int b =>
      cases dt_int' hd'
      refine rd_no rfl ?_
      walk_at "rd"
      refine dt_isS T.W hd ?_
      walk_at "rd"
      refine rd_no rfl ?_
      walk_at "rd"
      refine ⟨rfl, ?_⟩
      walk_at "rd"
      refine rd_no rfl ?_
      walk_at "rd"
      refine dt_isI T.W hd ?_
      exact q0
    | list es =>
      obtain ⟨a, xs, rfl, _⟩ := dt_lst' hd'
      refine rd_no rfl ?_
      walk_at "rd"
      refine dt_isS T.W hd ?_
      walk_at "rd"
      refine rd_no rfl ?_
      walk_at "rd"
      refine ⟨rfl, ?_⟩
      walk_at "rd"
      refine rd_no rfl ?_
      walk_at "rd"
      refine dt_isI T.W hd ?_
      exact q0
    | dict es =>
      obtain ⟨a, rfl, _⟩ := dt_dic' hd'
      refine rd_no rfl ?_
      walk_at "rd"
      refine dt_isS T.W hd ?_
      walk_at "rd"
      refine rd_no rfl ?_
      walk_at "rd"
      refine ⟨rfl, ?_⟩
      walk_at "rd"
      refine rd_no rfl ?_
      walk_at "rd"
      refine dt_isI T.W hd ?_
      exact q0
theorem ok_ipw_n (T : Tx K mg) (B : Bk K mg T) : ∀ n, FnOk P w K mg base CX0 (n + 2) B.is_parcel_within.f B.is_parcel_within.fd ["deep", "thing"] (spIpw T.CP n)
  | 0 => fn_no fun vs H Q E h => by
    obtain ⟨M, d, x, deep, _, _, hn, _⟩ := h
    omega
  | n + 1 => ipw_step T B (by omega) (ok_ipw_n T B n)
theorem ok_is_parcel (T : Tx K mg) (B : Bk K mg T) : FnOk P w K mg base CX0 24 B.is_parcel.f B.is_parcel.fd ["thing"] (spIsParcel T.CP) := by
  have G_is_parcel_within := ok_ipw_n (P := P) (w := w) (base := base) T B 21
  refine B.is_parcel.F.ok sc_is_parcel (fun vs H Q E h => ?_) (fun cdv A outer s H vs Q E hr h => ?_)
  · obtain ⟨M, d, x, rfl, _⟩ := h
    rfl
  · obtain ⟨M, d, x, rfl, hd, hz, q⟩ := h
    refine ⟨_, (pss_one (ps_ret (pe_call G_is_parcel_within (hr.mono (by omega)) rfl B.is_parcel_within.m B.is_parcel_within.F.kp B.is_parcel_within.b .nil pass0 (pa_cons (pe_glob (v := .int 20) (by rfl) T.g_MOST_DEEP ⟨_, rfl⟩) (pa_cons (pv 0) pa_nil))))), ?_⟩
    walk_at "rd"
    exact ⟨M, d, x, 20, rfl, hd, by omega, hz, q⟩
theorem ok_row_of (T : Tx K mg) (B : Bk K mg T) : FnOk P w K mg base (L2.CX P w) 25 B.row_of.f B.row_of.fd ["parcel"] (spRowOf T.CP T.c_NoParcel) := by
  have G_is_parcel := ok_is_parcel (P := P) (w := w) (base := base) T B
  have G_told := ok_told_n (P := P) (w := w) (base := base) T B 21
  have G_NoParcel_init := ok_parcel_init (P := P) (w := w) (base := base) T B
  refine B.row_of.F.okX sc_row_of (fun vs H Q E h => ?_) (fun cdv A outer s H vs Q E hr h => ?_)
  · obtain ⟨M, d, x, rfl, _⟩ := h
    rfl
  · obtain ⟨M, d, x, rfl, hd, hz, hb, q1, q0⟩ := h
    refine ⟨_, (pss_cons (ps_if (pt_not (pt_val (pe_call G_is_parcel (hr.mono (by omega)) rfl B.is_parcel.m B.is_parcel.F.kp B.is_parcel.b .nil pass0 (pa_cons (pv 0) pa_nil)))) (pss_one (ps_raise rfl (takes_of rfl rfl rfl rfl) (pmk_pass T.x_NoParcel B.NoParcel_init.a B.NoParcel_init.t G_NoParcel_init (hr.mono (by omega)) B.NoParcel_init.b pass0 rfl T.g_NoParcel))) pss_nil)
      (pss_one (ps_ret (pe_callTy call_tuple_of (by rfl) T.b_tuple (by decide +kernel) (pa_cons (pe_call G_told (hr.mono (by omega)) rfl B.told.m B.told.F.kp B.told.b .nil pass0 (pa_cons (pv 0) pa_nil)) pa_nil))))), ?_⟩
    walk_at "rd"
    refine ⟨M, d, x, rfl, hd, hz, fun H1 s1 => ?_⟩
    walk_at "rd"
    refine rd_ite (fun h1 => ?_) (fun h1 => ?_)
    · intro e he
      exact ⟨⟨e, rfl, rfl, rfl⟩, q0 (by simpa using h1) _ s1⟩
    · have hp : isPc 20 d = true := by simpa using h1
      walk_at "rd"
      refine ⟨M, d, x, rfl, hd.s s1, isPc_plain d hp, by have := isPc_depth d hp; omega, hb hp, fun p H2 s2 np hp2 => ?_⟩
      walk_at "rd"
      refine ⟨p, _, rfl, .inl ⟨SqL.of hp2, fun u nu => ?_⟩⟩
      exact q1 hp u _ ((s1.trans s2).trans (same_new nu)) upd_same
theorem ok_mark_of (T : Tx K mg) (B : Bk K mg T) : FnOk P w K mg base CX0 1 B.mark_of.f B.mark_of.fd ["row"] spMarkOf := by
  refine B.mark_of.F.ok sc_mark_of (fun vs H Q E h => ?_) (fun cdv A outer s H vs Q E hr h => ?_)
  · obtain ⟨a, row, rfl, _⟩ := h
    rfl
  · obtain ⟨a, row, rfl, ha, q⟩ := h
    refine ⟨_, (pss_cons (ps_set (i := 1) sc_mark_of.nd rfl (Or.inl rfl) pe_int)
      (pss_cons (ps_for PassesOwn.never rfl (pi_tup (pv 0)) (pg_name (i := 2) sc_mark_of.nd rfl (Or.inl rfl)) (pss_one (ps_set (i := 1) sc_mark_of.nd rfl (Or.inl rfl) (pe_op op_mod (pe_op op_add (pe_op op_add (pe_op op_mul (pv 1) pe_int) (pv 2)) pe_int) (pe_glob (v := .int 2305843009213693951) (by rfl) T.g_MARK_LIMIT ⟨_, rfl⟩)))))
      (pss_one (ps_ret (pv 1))))), ?_⟩
    walk_at "rd"
    refine ⟨_, rfl, a, rfl, ⟨_, SqT.of ha⟩, for_tup (K := K) (a := a) (xs := row.map V.int) (fun i σ H1 => H1 = H ∧ ∃ u : Option V, σ = [some (.ref a), some (.int (markL (row.take i))), u])
      ⟨rfl, none, rfl⟩ (fun i σ H1 _ hh => by rw [hh.1]; exact SqT.of ha) ?_ ?_⟩
    · rintro i y σ H1 hi ⟨rfl, u, rfl⟩
      obtain ⟨b, hb, rfl⟩ := mapint_get hi
      walk_at "rd"
      refine rd_iC (.inr ⟨by decide, by decide⟩) ?_
      walk_at "rd"
      refine rd_iC (show (0 : Int) < 2305843009213693951 by decide) ?_
      walk_at "rd"
      refine ⟨rfl, some (.int b), ?_⟩
      rw [take_snoc hb, markL_snoc]
      rfl
    · rintro σ H1 ⟨rfl, u, rfl⟩
      rw [List.length_map, List.take_length]
      walk_at "rd"
      exact q
theorem ok_seal (T : Tx K mg) (B : Bk K mg T) : FnOk P w K mg base CX0 2 B.seal_.f B.seal_.fd ["row"] spSeal := by
  have G_mark_of := ok_mark_of (P := P) (w := w) (base := base) T B
  refine B.seal_.F.ok sc_seal_ (fun vs H Q E h => ?_) (fun cdv A outer s H vs Q E hr h => ?_)
  · obtain ⟨a, row, rfl, _⟩ := h
    rfl
  · obtain ⟨a, row, rfl, ha, q⟩ := h
    refine ⟨_, (pss_cons (ps_set (i := 1) sc_seal_.nd rfl (Or.inl rfl) (pe_call G_mark_of (hr.mono (by decide)) rfl B.mark_of.m B.mark_of.F.kp B.mark_of.b .nil pass0 (pa_cons (pv 0) pa_nil)))
      (pss_cons (ps_set (i := 2) sc_seal_.nd rfl (Or.inl rfl) (pe_lst pa_nil))
      (pss_cons (ps_for PassesOwn.never rfl (pi_range1 (by rfl) T.b_range (pa_cons (pe_glob (v := .int 4) (by rfl) T.g_SEAL_LENGTH ⟨_, rfl⟩) pa_nil)) (pg_name (i := 3) sc_seal_.nd rfl (Or.inl rfl)) (pss_cons (ps_expr (pe_bm PySem.F.plainAttrs_list PySem.F.slot_list_append PySem.F.type_list_append mt_append (pv 2) (pa_cons (pe_op op_mod (pv 1) (pe_glob (v := .int 256) (by rfl) T.g_BYTE_LIMIT ⟨_, rfl⟩)) pa_nil)))
      (pss_one (ps_set (i := 1) sc_seal_.nd rfl (Or.inl rfl) (pe_op op_fdiv (pv 1) (pe_glob (v := .int 256) (by rfl) T.g_BYTE_LIMIT ⟨_, rfl⟩))))))
      (pss_one (ps_ret (pe_callTy call_tuple_of (by rfl) T.b_tuple (by decide +kernel) (pa_cons (pv 2) pa_nil))))))), ?_⟩
    walk_at "rd"
    refine ⟨a, row, rfl, ha, ?_⟩
    walk_at "rd"
    refine rd_disp rfl fun l nl => ?_
    walk_at "rd"
    refine ⟨4, rfl, by decide, by decide, for_range (lo := 0) (n := 4) (fun i σ H1 => ∃ (m : Int) (acc : List Int) (u : Option V), σ = [some (.ref a), some (.int m), some (.ref l), u] ∧ Same H H1 ∧ H1 l = some (.lst (acc.map V.int)) ∧ acc.length = i ∧ acc ++ sk (4 - i) m = sealL row)
      ⟨markL row, [], none, rfl, same_new nl, upd_same, rfl, rfl⟩ ?_ ?_⟩
    · rintro i σ H1 hi ⟨m, acc, u, rfl, hs, hacc, hl, he⟩
      obtain ⟨k, hk⟩ : ∃ k, 4 - i = k + 1 := ⟨4 - i - 1, by omega⟩
      rw [hk] at he
      walk_at "rd"
      refine ⟨.inl ⟨rfl, _, SqL.of hacc⟩, ?_⟩
      walk_at "rd"
      refine rd_iC (show (0 : Int) < 256 by decide) ?_
      walk_at "rd"
      refine rd_append hacc (small' (by rw [List.length_map]; omega)) ?_
      walk_at "rd"
      refine rd_iC (show (0 : Int) < 256 ∧ (256 : Int) < 1073741824 by decide) ?_
      walk_at "rd"
      refine ⟨m / 256, acc ++ [m % 256], _, rfl, fun b o e => (upd_ne (ne_of_none e nl)).trans (hs b o e), ?_, by simp [hl], ?_⟩
      · rw [upd_same, List.map_append]
        rfl
      · rw [← he, show 4 - (i + 1) = k by omega, List.append_assoc]
        rfl
    · rintro σ H1 ⟨m, acc, u, rfl, hs, hacc, hl, he⟩
      rw [show 4 - 4 = 0 from rfl, show sk 0 m = [] from rfl, List.append_nil] at he
      walk_at "rd"
      refine ⟨l, _, rfl, .inl ⟨SqL.of hacc, fun t nt => ?_⟩⟩
      exact q t _ (hs.trans (same_new nt)) (by rw [upd_same, he])
theorem ok_mark (T : Tx K mg) (B : Bk K mg T) : FnOk P w K mg base (L2.CX P w) 7 B.mark.f B.mark.fd ["row"] (spMark T.CP) := by
  have G_check_row := ok_check_row (P := P) (w := w) (base := base) T B
  have G_mark_of := ok_mark_of (P := P) (w := w) (base := base) T B
  refine B.mark.F.okX sc_mark (fun vs H Q E h => ?_) (fun cdv A outer s H vs Q E hr h => ?_)
  · obtain ⟨a, row, rfl, _⟩ := h
    rfl
  · obtain ⟨a, row, rfl, ha, q⟩ := h
    refine ⟨_, (pss_cons (ps_expr (pe_call G_check_row (hr.mono (by decide)) rfl B.check_row.m B.check_row.F.kp B.check_row.b .nil (passes_call (takes_of rfl rfl rfl rfl) (fun _ _ _ _ h => h)) (pa_cons (pv 0) pa_nil)))
      (pss_one (ps_ret (pe_call G_mark_of (hr.mono (by decide)) rfl B.mark_of.m B.mark_of.F.kp B.mark_of.b .nil pass0 (pa_cons (pv 0) pa_nil))))), ?_⟩
    walk_at "rd"
    refine ⟨[], _, .ref a, rfl, row_dt ha.1, by show (row.map PyData.int).length ≤ 900000; rw [List.length_map]; exact ha.3, fun H1 s1 => ⟨fun _ => ?_, fun z => ?_⟩⟩
    · walk_at "rd"
      exact ⟨a, row, rfl, s1 _ _ ha.1, q H1 s1⟩
    · rw [row_isD ha.2] at z
      cases z
theorem ok_sealed (T : Tx K mg) (B : Bk K mg T) : FnOk P w K mg base (L2.CX P w) 26 B.sealed.f B.sealed.fd ["parcel"] (spSealed T.CP T.c_NoParcel) := by
  have G_row_of := ok_row_of (P := P) (w := w) (base := base) T B
  have G_seal_ := ok_seal (P := P) (w := w) (base := base) T B
  refine B.sealed.F.okX sc_sealed (fun vs H Q E h => ?_) (fun cdv A outer s H vs Q E hr h => ?_)
  · obtain ⟨M, d, x, rfl, _⟩ := h
    rfl
  · obtain ⟨M, d, x, rfl, hd, hz, hb, q1, q0⟩ := h
    refine ⟨_, (pss_cons (ps_set (i := 1) sc_sealed.nd rfl (Or.inl rfl) (pe_call G_row_of (hr.mono (by decide)) rfl B.row_of.m B.row_of.F.kp B.row_of.b .nil (passes_call (takes_of rfl rfl rfl rfl) (fun _ _ _ _ h => h)) (pa_cons (pv 0) pa_nil)))
      (pss_one (ps_ret (pe_op op_catA (pv 1) (pe_call G_seal_ (hr.mono (by decide)) rfl B.seal_.m B.seal_.F.kp B.seal_.b .nil pass0 (pa_cons (pv 1) pa_nil)))))), ?_⟩
    walk_at "rd"
    refine ⟨M, d, x, rfl, hd, hz, fun hp => by have := hb hp; omega, fun hp t H1 s1 ht => ?_, q0⟩
    have hb' := hb hp
    have ne : 1 ≤ (byD d).length := Nat.le_trans (szd_pos d) (szd_by d hp)
    walk_at "rd"
    refine ⟨t, _, rfl, ht, fun t2 H2 s2 ht2 => ?_⟩
    have hsl := sealL_len (byD d)
    refine ⟨t, t2, _, _, rfl, rfl, SqT.of (s2 _ _ ht), SqT.of ht2, small (by rw [List.length_map, List.length_map]; omega), fun z => ?_, fun _ z => ?_, fun _ _ c nc => ?_⟩
    · rw [List.map_eq_nil_iff] at z
      rw [z] at ne
      simp at ne
    · rw [List.map_eq_nil_iff] at z
      rw [z] at hsl
      simp at hsl
    · walk_at "rd"
      exact q1 hp c _ ((s1.trans s2).trans (same_new nc)) (by rw [upd_same, List.map_append])
end
end Mw

/-! R12 -/
namespace Mw
open PySem L2
theorem isRow_form {d : PyData} (h : isRowD d = true) : ∃ row : List Int, d = .tuple (row.map PyData.int) ∧ ∀ b ∈ row, 0 ≤ b ∧ b < 256 := by
  cases d with
  | tuple ds =>
    have h' : (ds.map isByte).all id = true := h
    rw [List.all_map] at h'
    have h2 : ∀ x ∈ ds, isByte x = true := fun x hx => List.all_eq_true.mp h' x hx
    clear h h'
    induction ds with
    | nil => exact ⟨[], rfl, fun b hb => by cases hb⟩
    | cons x ds ih =>
      obtain ⟨row, e, hb⟩ := ih fun y hy => h2 y (List.mem_cons_of_mem _ hy)
      have hx := h2 x (by simp)
      cases x with
      | int i =>
        have hx' : (decide (0 ≤ i) && decide (i < 256)) = true := hx
        simp only [Bool.and_eq_true, decide_eq_true_eq] at hx'
        injection e with e
        refine ⟨i :: row, by rw [List.map_cons, e], fun b hb' => ?_⟩
        rcases List.mem_cons.mp hb' with z | z
        · rw [z]
          exact hx'
        · exact hb b z
      | _ => cases hx
  | _ => cases h
theorem cut_body (row : List Int) : cutV (row.map V.int) none (some (-4)) = (body row).map V.int := by
  unfold cutV body
  have e : HT.sIx (row.map V.int).length (row.map V.int).length (some (-4)) = row.length - 4 := by
    show (if (-4 : Int) < 0 then ((-4 : Int) + ((row.map V.int).length : Int)).toNat else min (-4 : Int).toNat (row.map V.int).length) = row.length - 4
    rw [if_pos (by decide), List.length_map]
    omega
  rw [e]
  show ((row.map V.int).drop 0).take (row.length - 4 - 0) = _
  rw [List.drop_zero, Nat.sub_zero, List.map_take]
theorem cut_tail (row : List Int) : cutV (row.map V.int) (some (-4)) none = (tail4 row).map V.int := by
  unfold cutV tail4
  have e : HT.sIx (row.map V.int).length 0 (some (-4)) = row.length - 4 := by
    show (if (-4 : Int) < 0 then ((-4 : Int) + ((row.map V.int).length : Int)).toNat else min (-4 : Int).toNat (row.map V.int).length) = row.length - 4
    rw [if_pos (by decide), List.length_map]
    omega
  rw [e]
  show ((row.map V.int).drop (row.length - 4)).take ((row.map V.int).length - (row.length - 4)) = _
  rw [List.take_of_length_le (by rw [List.length_drop]; exact Nat.le_refl _), List.map_drop]
theorem body_by {row : List Int} (h : ∀ b ∈ row, 0 ≤ b ∧ b < 256) : ∀ b ∈ body row, 0 ≤ b ∧ b < 256 := fun b hb => h b (List.mem_of_mem_take hb)
theorem body_len (row : List Int) : (body row).length ≤ row.length := by
  unfold body
  rw [List.length_take]
  omega
def spUnsealed (CP : Addr → Prop) : Sp := fun vs H Q _ => ∃ M d x, vs = [x] ∧ Dt CP M H d x ∧ lenD d ≤ 900000 ∧
  (isRowD d = false → ∀ t H', Same H H' → H' t = some (.tup []) → Q (.ref t) H') ∧
  (∀ row : List Int, d = .tuple (row.map PyData.int) → (∀ b ∈ row, 0 ≤ b ∧ b < 256) → ∀ D v H', OpD row D → Same H H' → Dt CP [] H' D v → Q v H')
section
variable {P : Program} {w : World} {K : PySem.W.Frag} {mg : Str → Option Value} {base : Heap}
local macro_rules | `(tactic| walk_at "rd") => `(tactic| (repeat (first
  | ((with_reducible refine' rd_var ?h0 ?_); (case h0 => rfl))
  | with_reducible refine rd_c ?_
  | with_reducible refine rd_op ?_
  | with_reducible refine rd_nil ?_
  | with_reducible refine rd_cons ?_
  | with_reducible refine rd_tup ?_
  | with_reducible refine rd_lst ?_
  | with_reducible refine rd_ifs ?_
  | with_reducible refine rd_seq ?_
  | with_reducible refine rd_next ?_
  | with_reducible refine rd_ret ?_
  | with_reducible refine rd_asg ?_
  | ((with_reducible refine' rd_gset ?hs ?_); (case hs => ((simp only [L2.start, List.map_cons, List.map_nil, List.length_cons, List.length_nil, List.cons_append, List.nil_append, List.set_cons_zero, List.set_cons_succ, Nat.reduceAdd, Nat.reduceSub, Nat.zero_add, List.reduceReplicate]); rfl)))
  | with_reducible refine rd_drop ?_
  | with_reducible refine rd_test ?_
  | with_reducible refine rd_B ?_
  | with_reducible refine rd_bl ?_
  | with_reducible refine rd_blP ?_
  | with_reducible refine rd_andV ?_
  | with_reducible refine rd_orV ?_
  | with_reducible refine rd_notV ?_
  | with_reducible refine rd_and ?_
  | with_reducible refine rd_or ?_
  | with_reducible refine rd_not ?_
  | with_reducible refine rd_chain ?_
  | with_reducible refine rd_dput ?_
  | with_reducible refine rd_dget ?_
  | with_reducible refine rd_cb ?_
  | with_reducible refine rd_call ?_
  | with_reducible refine rd_un ?_
  | with_reducible refine rd_sl ?_
  | with_reducible refine rd_nopart ?_
  | with_reducible refine rd_part ?_
  | with_reducible refine rd_intP ?_
  | with_reducible refine rd_rU ?_
  | with_reducible refine rd_fld ?_
  | with_reducible refine rd_eqI ?_
  | with_reducible refine rd_neI ?_
  | with_reducible refine rd_mko ?_
  | with_reducible refine rd_bm ?_
  | with_reducible refine rd_gsub ?_
  | with_reducible refine rd_i0 ?_)))
theorem ok_unsealed (T : Tx K mg) (B : Bk K mg T) : FnOk P w K mg base CX0 48 B.unsealed.f B.unsealed.fd ["row"] (spUnsealed T.CP) := by
  have G_is_row := ok_is_row (P := P) (w := w) (base := base) T B
  have G_seal_ := ok_seal (P := P) (w := w) (base := base) T B
  have G_parcel_of := ok_parcel_of (P := P) (w := w) (base := base) T B
  refine B.unsealed.F.ok sc_unsealed (fun vs H Q E h => ?_) (fun cdv A outer s H vs Q E hr h => ?_)
  · obtain ⟨M, d, x, rfl, _⟩ := h
    rfl
  · obtain ⟨M, d, x, rfl, hd, hl, q0, q1⟩ := h
    refine ⟨_, (pss_cons (ps_if (PW.pt (pw_or (pt_not (pt_val (pe_call G_is_row (hr.mono (by omega)) rfl B.is_row.m B.is_row.F.kp B.is_row.b .nil pass0 (pa_cons (pv 0) pa_nil)))) (pw_or1 (pt_cmpR (op_neD hr.units) (pe_call G_seal_ (hr.mono (by omega)) rfl B.seal_.m B.seal_.F.kp B.seal_.b .nil pass0 (pa_cons (pe_slice sl_tupA (pv 0) po_none (po_some (pe_un un_neg (pe_glob (v := .int 4) (by rfl) T.g_SEAL_LENGTH ⟨_, rfl⟩)))) pa_nil)) (pe_slice sl_tupA (pv 0) (po_some (pe_un un_neg (pe_glob (v := .int 4) (by rfl) T.g_SEAL_LENGTH ⟨_, rfl⟩))) po_none) (nomark _))))) (pss_one (ps_ret (pe_tup pa_nil))) pss_nil)
      (pss_one (ps_try_many (Wout := fun _ _ _ _ => False) rfl rfl takes0 (fun W pn xe tk _ => (pss_one (ps_ret (pe_tup (pa_cons (pe_callS G_parcel_of (hr.mono (by omega)) rfl B.parcel_of.m B.parcel_of.F.kp B.parcel_of.b (fun σ => passAt tk σ) (pa_cons (pe_slice (r := rSlA K) sl_tupA (pv 0) po_none (po_some (pe_un un_neg (pe_glob (v := .int 4) (by rfl) T.g_SEAL_LENGTH ⟨_, rfl⟩)))) pa_nil)) pa_nil))))) (HdsOk.cons ⟨by rfl, by decide, Or.inl T.g_BadRow⟩ (fun a oe cls d pn hz hf => (pss_one (ps_ret (pe_tup pa_nil)))) HdsOk.nil)))), ?_⟩
    walk_at "rd"
    refine ⟨M, d, x, rfl, hd, hl, fun H1 s1 => ?_⟩
    walk_at "rd"
    refine rd_ite (fun h1 => ?_) (fun h1 => ?_)
    · refine rd_yes rfl ?_
      walk_at "rd"
      refine rd_disp rfl fun t nt => ?_
      exact q0 (by simpa using h1) t _ (s1.trans (same_new nt)) upd_same
    · have hT : isRowD d = true := by simpa using h1
      obtain ⟨row, rfl, hby⟩ := isRow_form hT
      have q2 := q1 row rfl hby
      obtain ⟨a, xs, rfl, ha, hx⟩ := dt_tup' hd
      have ex := dt_ints' hx
      subst ex
      have hlr : row.length ≤ 900000 := by
        have : (row.map PyData.int).length ≤ 900000 := hl
        rw [List.length_map] at this
        exact this
      walk_at "rd"
      refine rd_cutA (s1 _ _ ha) fun c H2 s2 hc => ?_
      rw [show (-4 : Int) = -4 from rfl] at hc
      rw [cut_body] at hc
      refine ⟨c, body row, rfl, hc, fun t H3 s3 ht => ?_⟩
      walk_at "rd"
      have s13 := (s1.trans s2).trans s3
      refine rd_cutA (s13 _ _ ha) fun c2 H4 s4 hc2 => ?_
      rw [cut_tail] at hc2
      have s14 := s13.trans s4
      refine ⟨.tuple ((sealL (body row)).map PyData.int), .tuple ((tail4 row).map PyData.int), dt_dp (CP := T.CP) (M := []) _ _ (ints_lay _) (row_dt (s4 _ _ ht)), dt_dp (CP := T.CP) (M := []) _ _ (ints_lay _) (row_dt hc2), ints_shaped _, ints_shaped _, ?_⟩
      rw [show PyData.eqv (.tuple ((sealL (body row)).map PyData.int)) (.tuple ((tail4 row).map PyData.int)) = PyData.eqvAll ((sealL (body row)).map PyData.int) ((tail4 row).map PyData.int) from rfl, eqv_ints]
      walk_at "rd"
      refine rd_ite (fun h2 => ?_) (fun h2 => ?_)
      · walk_at "rd"
        refine rd_disp rfl fun t2 nt2 => ?_
        refine q2 (.tuple []) (.ref t2) _ (.inr ⟨.inl ?_, rfl⟩) (s14.trans (same_new nt2)) (dt_tup upd_same dtAll_nil)
        unfold SealOk
        simpa using h2
      · have hS : SealOk row := by
          unfold SealOk
          simpa using h2
        walk_at "rd"
        refine rd_callS ?_
        walk_at "rd"
        refine rd_cutA (s14 _ _ ha) fun c3 H5 s5 hc3 => ?_
        rw [cut_body] at hc3
        have s15 := s14.trans s5
        have hRA : RowAt H5 c3 (body row) := ⟨hc3, body_by hby, by have := body_len row; omega⟩
        have caught : ∀ H6, Same H5 H6 → ((∃ e, Rd (body row) 20 0 (.bad e)) ∨ ∃ d e, Rd (body row) 20 0 (.ok d e) ∧ e ≠ (body row).length) → ∀ t H7, Same H6 H7 → H7 t = some (.tup []) → Q (.ref t) H7 := fun H6 s6 hbad t H7 s7 ht7 =>
          q2 (.tuple []) (.ref t) _ (.inr ⟨.inr hbad, rfl⟩) ((s15.trans s6).trans s7) (dt_tup ht7 dtAll_nil)
        refine ⟨c3, body row, rfl, hRA, fun d hR v H6 s6 hv => ?_, fun d e hR ne H6 s6 e2 H7 n2 s7 hx2 => ?_, fun e hR H6 s6 e2 H7 n2 s7 hx2 => ?_⟩
        · walk_at "rd"
          refine rd_disp rfl fun t2 nt2 => ?_
          have sn := same_new (o := .tup [v]) nt2
          exact q2 (.tuple [d]) (.ref t2) _ (.inl ⟨hS, d, hR, rfl⟩) ((s15.trans s6).trans sn) (dt_tup upd_same (dtAll_cons (hv.s sn) dtAll_nil))
        · refine ⟨true, T.e_BadRowBadRow, fun _ z hnz => ?_, fun z => by cases z⟩
          walk_at "rd"
          refine rd_disp rfl fun t2 nt2 => ?_
          exact caught H6 s6 (.inr ⟨d, e, hR, ne⟩) t2 _ (s7.trans (same_new nt2)) upd_same
        · refine ⟨true, T.e_BadRowBadRow, fun _ z hnz => ?_, fun z => by cases z⟩
          walk_at "rd"
          refine rd_disp rfl fun t2 nt2 => ?_
          exact caught H6 s6 (.inl ⟨e, hR⟩) t2 _ (s7.trans (same_new nt2)) upd_same
end
end Mw

/-! R17m -/
/-! THE FACT OF ROWS, there. -/
namespace Mw
open PySem L2
theorem wh_facts : ∀ (k n : Nat), n ≤ k → ∀ post : List Int, lead (wh n ++ post) + 1 = (wh n).length ∧ ∃ c, (wh n ++ post)[lead (wh n ++ post)]? = some c ∧ (c = 0 → n = 0) ∧ val ((wh n ++ post).take (lead (wh n ++ post) + 1)) = (n : Int)
  | 0, n, h, post => by
    have : n = 0 := by omega
    subst this
    rw [wh_lt (by decide)]
    refine ⟨rfl, 0, rfl, fun _ => rfl, rfl⟩
  | k + 1, n, h, post => by
    by_cases c : n < 128
    · rw [wh_lt c]
      have e : lead ([(n : Int)] ++ post) = 0 := by
        show (if 128 ≤ (n : Int) then _ else _) = _
        rw [if_neg (by omega)]
      rw [e]
      refine ⟨rfl, (n : Int), rfl, fun z => by omega, ?_⟩
      show (n : Int) % 128 + 128 * 0 = n
      omega
    · obtain ⟨h1, x, h2, h3, h4⟩ := wh_facts k (n / 128) (by omega) post
      rw [wh_ge c]
      have e : lead (((n % 128 + 128 : Nat) : Int) :: wh (n / 128) ++ post) = lead (wh (n / 128) ++ post) + 1 := by
        show (if 128 ≤ ((n % 128 + 128 : Nat) : Int) then _ else _) = _
        rw [if_pos (by omega)]
        rfl
      rw [e]
      refine ⟨by rw [List.length_cons, h1], x, ?_, fun z => ?_, ?_⟩
      · show (((n % 128 + 128 : Nat) : Int) :: (wh (n / 128) ++ post))[lead (wh (n / 128) ++ post) + 1]? = some x
        rw [List.getElem?_cons_succ]
        exact h2
      · have := h3 z
        omega
      · show val ((((n % 128 + 128 : Nat) : Int) :: (wh (n / 128) ++ post)).take (lead (wh (n / 128) ++ post) + 1 + 1)) = n
        rw [List.take_succ_cons]
        show ((n % 128 + 128 : Nat) : Int) % 128 + 128 * val _ = n
        rw [h4]
        omega
theorem whR_wh {row post : List Int} {h n : Nat} (e : row.drop h = wh n ++ post) : whR row h = some ((n : Int), h + (wh n).length) := by
  obtain ⟨h1, c, h2, h3, h4⟩ := wh_facts n n (Nat.le_refl _) post
  unfold whR
  have e2 : row[h + lead (row.drop h)]? = some c := by
    rw [← List.getElem?_drop, e]
    exact h2
  rw [e2, e]
  have : ¬ (c = 0 ∧ 0 < lead (wh n ++ post)) := fun z => by
    have := h3 z.1
    subst this
    have l1 : (wh 0).length = 1 := by
      rw [wh_lt (by decide)]
      rfl
    have := z.2
    omega
  show (if c = 0 ∧ 0 < lead (wh n ++ post) then _ else _) = _
  rw [if_neg this, h4, show h + lead (wh n ++ post) + 1 = h + (wh n).length by omega]
theorem drop_cons {row r : List Int} {h : Nat} {b : Int} (e : row.drop h = b :: r) : row[h]? = some b ∧ row.drop (h + 1) = r := by
  constructor
  · have := List.getElem?_drop (xs := row) (i := h) (j := 0)
    rw [e, Nat.add_zero] at this
    exact this.symm
  · rw [← List.drop_drop, e]
    rfl
theorem drop_app {row a b : List Int} {h : Nat} (e : row.drop h = a ++ b) : row.drop (h + a.length) = b := by
  rw [← List.drop_drop, e, List.drop_left]
theorem strR_of {row post : List Int} : ∀ {cs : List Int} {h : Nat}, row.drop h = cs ++ post → cs.all isSign = true → strR row cs.length h = .ok (cs.map Int.toNat) (h + cs.length)
  | [], h, _, _ => rfl
  | c :: cs, h, e, a => by
    obtain ⟨e1, e2⟩ := drop_cons (r := cs ++ post) e
    rw [List.all_cons, Bool.and_eq_true] at a
    show (match row[h]? with | none => _ | some b => _) = _
    rw [e1]
    show (if isSign c = true then consR c.toNat (strR row cs.length (h + 1)) else _) = _
    rw [if_pos a.1, strR_of e2 a.2]
    show Rs.ok _ (h + 1 + cs.length) = Rs.ok _ (h + (cs.length + 1))
    rw [show h + 1 + cs.length = h + (cs.length + 1) by omega]
    rfl
theorem strOf_sgn (s : Str) : strOf ((sgn s).map Int.toNat) = s := by
  unfold strOf sgn
  rw [List.map_map]
  have : (Int.toNat ∘ fun c : Nat => (c : Int)) = id := by
    funext c
    exact Int.toNat_natCast c
  rw [this, List.map_id]
mutual
theorem rd_by {row : List Int} : ∀ {n h : Nat} {post : List Int} (d : PyData), isPc n d = true → row.drop h = byD d ++ post → Rd row n h (.ok d (h + (byD d).length))
  | n, h, post, .none, _, e => by
    obtain ⟨e1, e2⟩ := drop_cons (r := post) e
    rw [rdd]
    have := rdB_low (R := inn row n) e1 (by decide)
    rw [if_pos rfl] at this
    exact this
  | n, h, post, .bool b, _, e => by
    obtain ⟨e1, e2⟩ := drop_cons (r := post) e
    rw [rdd]
    cases b with
    | true =>
      have := rdB_low (R := inn row n) e1 (by decide)
      rw [if_neg (by decide)] at this
      exact this
    | false =>
      have := rdB_low (R := inn row n) e1 (by decide)
      rw [if_neg (by decide)] at this
      exact this
  | n, h, post, .int i, _, e => by
    rw [rdd]
    by_cases c : 0 ≤ i
    · have eb : byD (.int i) = 3 :: wh i.toNat := if_pos c
      rw [eb] at e ⊢
      obtain ⟨e1, e2⟩ := drop_cons (r := wh i.toNat ++ post) e
      have := rdB_int (R := inn row n) e1 (by decide) (by decide) (whR_wh e2)
      rw [if_pos rfl, Int.toNat_of_nonneg c] at this
      rw [List.length_cons, show h + ((wh i.toNat).length + 1) = h + 1 + (wh i.toNat).length by omega]
      exact this
    · have eb : byD (.int i) = 4 :: wh (-1 - i).toNat := if_neg c
      rw [eb] at e ⊢
      obtain ⟨e1, e2⟩ := drop_cons (r := wh (-1 - i).toNat ++ post) e
      have := rdB_int (R := inn row n) e1 (by decide) (by decide) (whR_wh e2)
      rw [if_neg (by decide), Int.toNat_of_nonneg (by omega), show -1 - (-1 - i) = i by omega] at this
      rw [List.length_cons, show h + ((wh (-1 - i).toNat).length + 1) = h + 1 + (wh (-1 - i).toNat).length by omega]
      exact this
  | n, h, post, .str s, hp, e => by
    rw [rdd]
    have hp' : okStr s = true := hp
    unfold okStr at hp'
    simp only [Bool.and_eq_true, decide_eq_true_eq] at hp'
    have e' : row.drop h = 5 :: (wh s.length ++ (sgn s ++ post)) := by
      rw [e]
      show 5 :: (wh s.length ++ sgn s) ++ post = _
      rw [List.cons_append, List.append_assoc]
    obtain ⟨e1, e2⟩ := drop_cons e'
    have e3 := drop_app e2
    have := rdB_s1 (R := inn row n) e1 rfl (whR_wh e2) (by omega)
    rw [Int.toNat_natCast] at this
    have hS := strR_of (cs := sgn s) e3 hp'.2
    rw [sgn_len] at hS
    rw [hS] at this
    have g : strD (.ok ((sgn s).map Int.toNat) (h + 1 + (wh s.length).length + s.length)) = .ok (.str s) (h + (byD (.str s)).length) := by
      show Rs.ok (PyData.str (strOf ((sgn s).map Int.toNat))) _ = _
      rw [strOf_sgn]
      show Rs.ok _ _ = Rs.ok _ (h + ((5 : Int) :: (wh s.length ++ sgn s)).length)
      rw [List.length_cons, List.length_append, sgn_len, show h + 1 + (wh s.length).length + s.length = h + ((wh s.length).length + s.length + 1) by omega]
    rw [g] at this
    exact this
  | n, h, post, .list _, hp, e => by simp [isPc] at hp
  | n, h, post, .dict _, hp, e => by simp [isPc] at hp
  | n, h, post, .tuple ds, hp, e => by
    have hp' := hp
    simp only [isPc, Bool.and_eq_true, decide_eq_true_eq] at hp'
    obtain ⟨n', rfl⟩ : ∃ n', n = n' + 1 := ⟨n - 1, by omega⟩
    have e' : row.drop h = 6 :: (wh ds.length ++ (byAll ds ++ post)) := by
      rw [e]
      show 6 :: (wh ds.length ++ byAll ds) ++ post = _
      rw [List.cons_append, List.append_assoc]
    obtain ⟨e1, e2⟩ := drop_cons e'
    have e3 := drop_app e2
    have hI := its_by ds hp'.2 e3
    have := rdB_tup (R := Rd row n') (r := .ok ds (h + 1 + (wh ds.length).length + (byAll ds).length)) e1 rfl (whR_wh e2) (by rw [Int.toNat_natCast]; exact hI)
    show RdB row (some (Rd row n')) h _
    have g : tupD (.ok ds (h + 1 + (wh ds.length).length + (byAll ds).length)) = .ok (.tuple ds) (h + (byD (.tuple ds)).length) := by
      show Rs.ok _ _ = Rs.ok _ (h + ((6 : Int) :: (wh ds.length ++ byAll ds)).length)
      rw [List.length_cons, List.length_append, show h + 1 + (wh ds.length).length + (byAll ds).length = h + ((wh ds.length).length + (byAll ds).length + 1) by omega]
    rw [g] at this
    exact this
theorem its_by {row : List Int} : ∀ {n h : Nat} {post : List Int} (ds : List PyData), isPcAll n ds = true → row.drop h = byAll ds ++ post → Its (Rd row n) ds.length h (.ok ds (h + (byAll ds).length))
  | n, h, post, [], _, e => Its.nil h
  | n, h, post, d :: ds, hp, e => by
    simp only [isPcAll, Bool.and_eq_true] at hp
    have e' : row.drop h = byD d ++ (byAll ds ++ post) := by
      rw [e]
      show byD d ++ byAll ds ++ post = _
      rw [List.append_assoc]
    have h1 := rd_by d hp.1 e'
    have h2 := its_by ds hp.2 (drop_app e')
    have := Its.one h1 h2
    show Its (Rd row n) (ds.length + 1) h (.ok (d :: ds) (h + (byD d ++ byAll ds).length))
    rw [List.length_append, ← Nat.add_assoc]
    exact this
end
theorem opD_seal {d : PyData} (h : isPc 20 d = true) : OpD (byD d ++ sealL (byD d)) (.tuple [d]) := by
  obtain ⟨h1, h2⟩ := seal_of (byD d)
  refine .inl ⟨h1, d, ?_, rfl⟩
  rw [h2]
  have := rd_by (row := byD d) (n := 20) (h := 0) (post := []) d h (by rw [List.append_nil]; rfl)
  rw [Nat.zero_add] at this
  exact this
end Mw

/-! R18m -/
/-! THE FACT OF ROWS, and back. -/
namespace Mw
open PySem L2
theorem val_one : ∀ (L : List Int) (c : Int), (∀ b ∈ L, 0 ≤ b ∧ b < 256) → L[lead L]? = some c → c ≠ 0 → 1 ≤ val (L.take (lead L + 1))
  | [], c, _, e, _ => by simp [lead] at e
  | b :: r, c, hb, e, hc => by
    have b1 := hb b (by simp)
    by_cases g : 128 ≤ b
    · have el : lead (b :: r) = lead r + 1 := if_pos g
      rw [el] at e ⊢
      rw [List.getElem?_cons_succ] at e
      have := val_one r c (fun x hx => hb x (by simp [hx])) e hc
      rw [List.take_succ_cons]
      show 1 ≤ b % 128 + 128 * val (r.take (lead r + 1))
      omega
    · have el : lead (b :: r) = 0 := if_neg g
      rw [el] at e ⊢
      have : b = c := by simpa using e
      show 1 ≤ b % 128 + 128 * 0
      omega
theorem wh_inv : ∀ (L : List Int) (c : Int), (∀ b ∈ L, 0 ≤ b ∧ b < 256) → L[lead L]? = some c → (c ≠ 0 ∨ lead L = 0) → L.take (lead L + 1) = wh (val (L.take (lead L + 1))).toNat
  | [], c, _, e, _ => by simp [lead] at e
  | b :: r, c, hb, e, hc => by
    have b1 := hb b (by simp)
    by_cases g : 128 ≤ b
    · have el : lead (b :: r) = lead r + 1 := if_pos g
      rw [el] at e hc ⊢
      rw [List.getElem?_cons_succ] at e
      have c0 : c ≠ 0 := by
        rcases hc with z | z
        · exact z
        · omega
      have hr : ∀ x ∈ r, 0 ≤ x ∧ x < 256 := fun x hx => hb x (by simp [hx])
      have v1 := val_one r c hr e c0
      have ih := wh_inv r c hr e (.inl c0)
      rw [List.take_succ_cons]
      have ev : val (b :: r.take (lead r + 1)) = b % 128 + 128 * val (r.take (lead r + 1)) := rfl
      rw [ev]
      generalize hv : val (r.take (lead r + 1)) = v at v1 ih
      rw [wh_ge (show ¬ (b % 128 + 128 * v).toNat < 128 by omega), ih]
      have e1 : (((b % 128 + 128 * v).toNat % 128 + 128 : Nat) : Int) = b := by omega
      have e2 : (b % 128 + 128 * v).toNat / 128 = v.toNat := by omega
      rw [e1, e2]
    · have el : lead (b :: r) = 0 := if_neg g
      rw [el]
      show [b] = wh (b % 128 + 128 * 0).toNat
      rw [wh_lt (by omega)]
      have : ((b % 128 + 128 * 0).toNat : Int) = b := by omega
      rw [this]
theorem whR_inv {row : List Int} (hb : ∀ b ∈ row, 0 ≤ b ∧ b < 256) {h e : Nat} {n : Int} (g : whR row h = some (n, e)) : row.drop h = wh n.toNat ++ row.drop e := by
  unfold whR at g
  split at g
  · cases g
  · rename_i c hc
    split at g
    · cases g
    · rename_i hn
      injection g with g
      injection g with g1 g2
      have e2 : (row.drop h)[lead (row.drop h)]? = some c := by
        rw [List.getElem?_drop]
        exact hc
      have hk : c ≠ 0 ∨ lead (row.drop h) = 0 := by omega
      have := wh_inv (row.drop h) c (fun b hb' => hb b (List.mem_of_mem_drop hb')) e2 hk
      rw [g1] at this
      rw [← this, ← g2, Nat.add_assoc, ← List.drop_drop, List.take_append_drop]
theorem strR_inv {row : List Int} (hb : ∀ b ∈ row, 0 ≤ b ∧ b < 256) : ∀ {m h e : Nat} {cs : List Nat}, strR row m h = .ok cs e → cs.length = m ∧ row.drop h = (cs.map fun c : Nat => (c : Int)) ++ row.drop e ∧ (cs.map fun c : Nat => (c : Int)).all isSign = true
  | 0, h, e, cs, g => by
    unfold strR at g
    injection g with g1 g2
    subst g1 g2
    exact ⟨rfl, rfl, rfl⟩
  | m + 1, h, e, cs, g => by
    unfold strR at g
    split at g
    · cases g
    · rename_i b hb'
      split at g
      · rename_i hs
        cases k : strR row m (h + 1) with
        | bad e2 =>
          rw [k] at g
          cases g
        | ok cs2 e2 =>
          rw [k] at g
          injection g with g1 g2
          subst g1 g2
          obtain ⟨i1, i2, i3⟩ := strR_inv hb k
          have hl := (List.getElem?_eq_some_iff.mp hb').1
          have b0 := hb b (List.mem_of_getElem? hb')
          have ebb : ((b.toNat : Nat) : Int) = b := by omega
          refine ⟨by simp [i1], ?_, ?_⟩
          · rw [List.drop_eq_getElem_cons hl, show row[h] = b from (List.getElem?_eq_some_iff.mp hb').2, i2, List.map_cons, ebb]
            rfl
          · rw [List.map_cons, List.all_cons, ebb, hs, i3]
            rfl
      · cases g
theorem its_inv {row : List Int} {n : Nat} (hR : ∀ h d e, Rd row n h (.ok d e) → isPc n d = true ∧ row.drop h = byD d ++ row.drop e) {m h : Nat} {r : Rs (List PyData)} (a : Its (Rd row n) m h r) : ∀ ds e, r = .ok ds e → ds.length = m ∧ isPcAll n ds = true ∧ row.drop h = byAll ds ++ row.drop e := by
  induction a with
  | nil h =>
    intro ds e z
    injection z with z1 z2
    subst z1 z2
    exact ⟨rfl, rfl, rfl⟩
  | bad x =>
    intro ds e z
    cases z
  | @one m h h2 d r x y ih =>
    intro ds e z
    cases r with
    | bad e2 => cases z
    | ok l2 e2 =>
      injection z with z1 z2
      subst z1 z2
      obtain ⟨i1, i2, i3⟩ := ih _ _ rfl
      obtain ⟨j1, j2⟩ := hR _ _ _ x
      refine ⟨by simp [i1], ?_, ?_⟩
      · simp only [isPcAll, Bool.and_eq_true]
        exact ⟨j1, i2⟩
      · rw [j2, i3]
        show _ = byD d ++ byAll l2 ++ _
        rw [List.append_assoc]
theorem rdB_inv {row : List Int} (hb : ∀ b ∈ row, 0 ≤ b ∧ b < 256) {n : Nat} (hR : ∀ n', n = n' + 1 → ∀ h d e, Rd row n' h (.ok d e) → isPc n' d = true ∧ row.drop h = byD d ++ row.drop e) {h e : Nat} {d : PyData} (a : RdB row (inn row n) h (.ok d e)) : isPc n d = true ∧ row.drop h = byD d ++ row.drop e := by
  unfold RdB at a
  split at a
  · cases a
  · rename_i c hc
    have hl := (List.getElem?_eq_some_iff.mp hc).1
    have ec : row.drop h = c :: row.drop (h + 1) := by
      rw [List.drop_eq_getElem_cons hl, show row[h] = c from (List.getElem?_eq_some_iff.mp hc).2]
    have c0 := hb c (List.mem_of_getElem? hc)
    split at a
    · cases a
    · rename_i hn
      split at a
      · rename_i c3
        injection a with a1 a2
        subst a1 a2
        rw [ec]
        by_cases z : c = 0
        · rw [if_pos z, z]
          exact ⟨rfl, rfl⟩
        · rw [if_neg z]
          refine ⟨rfl, ?_⟩
          by_cases z2 : c = 2
          · rw [decide_eq_true z2, z2]
            rfl
          · rw [decide_eq_false z2, show c = 1 by omega]
            rfl
      · rename_i c3
        split at a
        · cases a
        · rename_i k e' hw
          have hwi := whR_inv hb hw
          have hk := whR_nn hw
          split at a
          · rename_i c5
            injection a with a1 a2
            subst a1 a2
            refine ⟨rfl, ?_⟩
            rw [ec, hwi]
            by_cases z : c = 3
            · rw [if_pos z, z]
              have : byD (.int k) = 3 :: wh k.toNat := if_pos hk
              rw [this]
              rfl
            · rw [if_neg z, show c = 4 by omega]
              have : byD (.int (-1 - k)) = 4 :: wh (-1 - (-1 - k)).toNat := if_neg (by omega)
              rw [this, show -1 - (-1 - k) = k by omega]
              rfl
          · rename_i c5
            split at a
            · rename_i z5
              split at a
              · cases a
              · rename_i hk20
                cases q : strR row k.toNat e' with
                | bad e2 =>
                  rw [q] at a
                  cases a
                | ok cs e2 =>
                  rw [q] at a
                  injection a with a1 a2
                  subst a1 a2
                  obtain ⟨i1, i2, i3⟩ := strR_inv hb q
                  refine ⟨?_, ?_⟩
                  · show okStr (strOf cs) = true
                    unfold okStr
                    rw [len_of, sgn_of, i3, i1, decide_eq_true (show 0 < k.toNat by omega), decide_eq_true (show k.toNat ≤ 20 by omega)]
                    rfl
                  · rw [ec, hwi, i2, z5]
                    show _ = (5 : Int) :: (wh (strOf cs).length ++ sgn (strOf cs)) ++ _
                    rw [len_of, sgn_of, i1, List.cons_append, List.append_assoc]
            · rename_i z5
              have z6 : c = 6 := by omega
              obtain ⟨R', r, x, y, z⟩ := a
              cases n with
              | zero => cases x
              | succ n =>
                cases x
                cases r with
                | bad e2 => cases z
                | ok ds e2 =>
                  injection z with z1 z2
                  subst z1 z2
                  obtain ⟨i1, i2, i3⟩ := its_inv (hR n rfl) y _ _ rfl
                  refine ⟨?_, ?_⟩
                  · simp only [isPc, Bool.and_eq_true, decide_eq_true_eq]
                    exact ⟨by omega, i2⟩
                  · rw [ec, hwi, i3, z6]
                    show _ = (6 : Int) :: (wh ds.length ++ byAll ds) ++ _
                    rw [i1, List.cons_append, List.append_assoc]
theorem rd_inv {row : List Int} (hb : ∀ b ∈ row, 0 ≤ b ∧ b < 256) : ∀ {n h e : Nat} {d : PyData}, Rd row n h (.ok d e) → isPc n d = true ∧ row.drop h = byD d ++ row.drop e
  | 0, h, e, d, a => rdB_inv hb (n := 0) (fun n' z => by omega) a
  | n + 1, h, e, d, a => rdB_inv hb (n := n + 1) (fun n' z h d e x => by
    have : n' = n := by omega
    subst this
    exact rd_inv hb x) a
theorem rd_inv_all {row : List Int} (hb : ∀ b ∈ row, 0 ≤ b ∧ b < 256) {d : PyData} (a : Rd row 20 0 (.ok d row.length)) : isPc 20 d = true ∧ row = byD d := by
  obtain ⟨h1, h2⟩ := rd_inv hb a
  refine ⟨h1, ?_⟩
  rw [List.drop_length, List.append_nil] at h2
  exact h2
theorem opD_size {row : List Int} (hb : ∀ b ∈ row, 0 ≤ b ∧ b < 256) {D : PyData} (h : OpD row D) : plainD D = true ∧ D.depth < 22 ∧ szd D ≤ row.length + 2 := by
  rcases h with ⟨_, d, hR, rfl⟩ | ⟨_, rfl⟩
  · have hbb : ∀ b ∈ body row, 0 ≤ b ∧ b < 256 := fun b hb' => hb b (List.mem_of_mem_take hb')
    obtain ⟨h1, h2⟩ := rd_inv_all hbb hR
    have h3 := isPc_depth d h1
    have h4 := szd_by d h1
    have h5 : (body row).length ≤ row.length := by
      unfold body
      rw [List.length_take]
      omega
    rw [← h2] at h4
    refine ⟨?_, ?_, ?_⟩
    · show (plainD d && true) = true
      rw [isPc_plain d h1]
      rfl
    · show max d.depth 0 + 1 < 22
      omega
    · show szd d + 0 + 1 ≤ row.length + 2
      omega
  · refine ⟨rfl, by decide, ?_⟩
    show 0 + 1 ≤ row.length + 2
    omega
end Mw

/-! X1 -/
namespace Mw
open PySem L2
theorem lenD_row {row : List Int} (h : row.length ≤ 900000) : lenD (.tuple (row.map PyData.int)) ≤ 900000 := by
  show (row.map PyData.int).length ≤ 900000
  rw [List.length_map]
  exact h
/-! disks -/
abbrev dF (l : Addr) (n : Nat) : List (Str × V) := [(("rows" : Str), .ref l), (("firm" : Str), .int (n : Int))]
theorem dF_rows (l : Addr) (n : Nat) : (dF l n).lookup ("rows" : Str) = some (.ref l) := rfl
theorem dF_firm (l : Addr) (n : Nat) : (dF l n).lookup ("firm" : Str) = some (.int (n : Int)) := rfl
theorem dF_put (l l' : Addr) (n : Nat) : putF ("rows" : Str) (.ref l') (dF l n) = dF l' n := rfl
theorem dF_set (l : Addr) (n m : Nat) : putF ("firm" : Str) (.int (m : Int)) (dF l n) = dF l m := rfl
/-- rows stand at as -/
def RAll (H : Hp) (as : List Addr) (rs : List (List Int)) : Prop := as.length = rs.length ∧ ∀ (i : Nat) a r, as[i]? = some a → rs[i]? = some r → RowAt H a r
theorem RAll.kt {H H' : Hp} {as : List Addr} {rs : List (List Int)} (h : RAll H as rs) (k : KT H H') : RAll H' as rs := ⟨h.1, fun i a r e f => (h.2 i a r e f).kt k⟩
theorem RAll.nil {H : Hp} : RAll H [] [] := ⟨rfl, fun i a r e _ => by simp at e⟩
theorem RAll.app {H : Hp} {as bs : List Addr} {rs qs : List (List Int)} (h : RAll H as rs) (k : RAll H bs qs) : RAll H (as ++ bs) (rs ++ qs) := ⟨by rw [List.length_append, List.length_append, h.1, k.1], fun i a r e f => by
  rw [List.getElem?_append] at e f
  rw [h.1] at e
  split at e
  · rename_i g
    rw [if_pos g] at f
    exact h.2 i a r e f
  · rename_i g
    rw [if_neg g] at f
    exact k.2 _ a r e f⟩
theorem RAll.one {H : Hp} {a : Addr} {r : List Int} (h : RowAt H a r) : RAll H [a] [r] := ⟨rfl, fun i b q e f => by
  match i, e, f with
  | 0, e, f =>
    injection e with e
    injection f with f
    subst e f
    exact h⟩
theorem RAll.take {H : Hp} {as : List Addr} {rs : List (List Int)} (h : RAll H as rs) (n : Nat) : RAll H (as.take n) (rs.take n) := ⟨by rw [List.length_take, List.length_take, h.1], fun i a r e f => by
  rw [List.getElem?_take] at e f
  split at e
  · rename_i g
    rw [if_pos g] at f
    exact h.2 i a r e f
  · cases e⟩
theorem RAll.drop {H : Hp} {as : List Addr} {rs : List (List Int)} (h : RAll H as rs) (n : Nat) : RAll H (as.drop n) (rs.drop n) := ⟨by rw [List.length_drop, List.length_drop, h.1], fun i a r e f => by
  rw [List.getElem?_drop] at e f
  exact h.2 _ a r e f⟩
theorem RAll.get {H : Hp} {as : List Addr} {rs : List (List Int)} (h : RAll H as rs) {i : Nat} {v : V} (e : (as.map V.ref)[i]? = some v) : ∃ a r, v = .ref a ∧ as[i]? = some a ∧ rs[i]? = some r ∧ RowAt H a r := by
  rw [List.getElem?_map] at e
  cases g : as[i]? with
  | none =>
    rw [g] at e
    cases e
  | some a =>
    rw [g] at e
    injection e with e
    have hl := (List.getElem?_eq_some_iff.mp g).1
    rw [h.1] at hl
    exact ⟨a, rs[i], e.symm, rfl, List.getElem?_eq_getElem hl, h.2 i a _ g (List.getElem?_eq_getElem hl)⟩
/-- a list of rows at l -/
def LsAt (H : Hp) (l : Addr) (rs : List (List Int)) : Prop := ∃ as : List Addr, H l = some (.lst (as.map V.ref)) ∧ RAll H as rs
theorem LsAt.fk {M : List Addr} {H H' : Hp} {l : Addr} {rs : List (List Int)} (h : LsAt H l rs) (k : FK M H H') (n : l ∉ M) : LsAt H' l rs := by
  obtain ⟨as, h1, h2⟩ := h
  exact ⟨as, k.at n h1, h2.kt k.2⟩
theorem LsAt.s {H H' : Hp} {l : Addr} {rs : List (List Int)} (h : LsAt H l rs) (s : Same H H') : LsAt H' l rs := h.fk (M := []) (FK.same s) (by simp)
theorem LsAt.l {H : Hp} {l : Addr} {rs : List (List Int)} (h : LsAt H l rs) : ∃ us, H l = some (.lst us) := by
  obtain ⟨as, h1, _⟩ := h
  exact ⟨_, h1⟩
/-- a disk at a, its blocks in the list at l, n of them firm -/
def DiskAt (C : Addr) (H : Hp) (a l : Addr) (n : Nat) (rs : List (List Int)) : Prop := (∃ dx, H a = some (.ins C dx (dF l n))) ∧ LsAt H l rs
theorem DiskAt.ne {C a l : Addr} {H : Hp} {n : Nat} {rs : List (List Int)} (h : DiskAt C H a l n rs) : a ≠ l := by
  obtain ⟨⟨dx, h1⟩, h2⟩ := h
  obtain ⟨us, h3⟩ := h2.l
  exact ne_of h1 h3 (by intro z; cases z)
theorem DiskAt.fk {C a l : Addr} {M : List Addr} {H H' : Hp} {n : Nat} {rs : List (List Int)} (h : DiskAt C H a l n rs) (k : FK M H H') (n1 : a ∉ M) (n2 : l ∉ M) : DiskAt C H' a l n rs := by
  obtain ⟨⟨dx, h1⟩, h2⟩ := h
  exact ⟨⟨dx, k.at n1 h1⟩, h2.fk k n2⟩
theorem DiskAt.s {C a l : Addr} {H H' : Hp} {n : Nat} {rs : List (List Int)} (h : DiskAt C H a l n rs) (s : Same H H') : DiskAt C H' a l n rs := h.fk (M := []) (FK.same s) (by simp) (by simp)
theorem FK.ins {M : List Addr} {a C : Addr} {H : Hp} {o : HO} {dx : Addr} {fs : List (Str × V)} (m : a ∈ M) (h : H a = some (.ins C dx fs)) : FK M H (upd H a o) := FK.mut m h fun _ z => by cases z
theorem LsAt.upd {H : Hp} {l : Addr} {as : List Addr} {rs : List (List Int)} (k : KT H (upd H l (.lst (as.map V.ref)))) (h : RAll H as rs) : LsAt (upd H l (.lst (as.map V.ref))) l rs := ⟨as, upd_same, h.kt k⟩
/-- blocks cut -/
def cutR (rs : List (List Int)) (ks : List Int) : List (List Int) := (rs.zip ks).map fun x => x.1.take x.2.toNat
/-- so many bytes of each are there -/
def CutOk (rs : List (List Int)) (ks : List Int) : Prop := ks.length = rs.length ∧ ∀ (i : Nat) k r, ks[i]? = some k → rs[i]? = some r → 0 ≤ k ∧ k ≤ r.length
theorem cutR_len {rs : List (List Int)} {ks : List Int} (h : CutOk rs ks) : (cutR rs ks).length = rs.length := by
  unfold cutR
  rw [List.length_map, List.length_zip, h.1, Nat.min_self]
theorem cutR_get {rs : List (List Int)} {ks : List Int} {i : Nat} {r : List Int} {k : Int} (h1 : rs[i]? = some r) (h2 : ks[i]? = some k) : (cutR rs ks)[i]? = some (r.take k.toNat) := by
  unfold cutR
  rw [List.getElem?_map, (List.getElem?_zip_eq_some (z := (r, k))).mpr ⟨h1, h2⟩]
  rfl
def spDiskInit (C : Addr) : Sp := fun vs H Q _ => ∃ a dx, vs = [.ref a] ∧ H a = some (.ins C dx []) ∧ ∀ l H', FK [a] H H' → H l = none → l ≠ a → DiskAt C H' a l 0 [] → Q .non H'
def spWrite (CP : Addr → Prop) (C CR : Addr) : Sp := fun vs H Q E => ∃ a l n rs M d x, vs = [.ref a, x] ∧ DiskAt C H a l n rs ∧ Dt CP M H d x ∧ lenD d ≤ 900000 ∧ rs.length < 1000 ∧
  (∀ (r : List Int) H', d = .tuple (r.map PyData.int) → (∀ b ∈ r, 0 ≤ b ∧ b < 256) → FK [l] H H' → DiskAt C H' a l n (rs ++ [r]) → Q (.int (rs.length : Nat)) H') ∧ (isRowD d = false → ∀ H', Same H H' → E (.ref CR) none H')
def spSync (C : Addr) : Sp := fun vs H Q _ => ∃ a l n rs, vs = [.ref a] ∧ DiskAt C H a l n rs ∧ ∀ H', FK [a] H H' → DiskAt C H' a l rs.length rs → Q (.int ((rs.length : Nat) - (n : Nat))) H'
def spBlocks (C : Addr) : Sp := fun vs H Q _ => ∃ a l n rs, vs = [.ref a] ∧ DiskAt C H a l n rs ∧ ∀ b H', Same H H' → H b = none → LsAt H' b rs → Q (.ref b) H'
def spSynced (C : Addr) : Sp := fun vs H Q _ => ∃ a l n rs, vs = [.ref a] ∧ DiskAt C H a l n rs ∧ Q (.int (n : Nat)) H
/-- whether a thing tells a number of bytes that it has for each of the blocks -/
def cutB (rs : List (List Int)) : PyData → Bool
  | .tuple ds => decide ((ds.length : Int) = (rs.length : Nat)) && ((rs.zip ds).map fun x => isNb ((x.1.length : Nat) + 1) x.2).all id
  | _ => false
def spIsCut (CP : Addr → Prop) : Sp := fun vs H Q _ => ∃ wt rs M d x, vs = [.ref wt, x] ∧ LsAt H wt rs ∧ Dt CP M H d x ∧ rs.length ≤ 1000 ∧ ∀ H', Same H H' → Q (.bl (cutB rs d)) H'
def spCut (CP : Addr → Prop) (C CN : Addr) : Sp := fun vs H Q E => ∃ a l n rs M d x, vs = [.ref a, x] ∧ DiskAt C H a l n rs ∧ n ≤ rs.length ∧ rs.length ≤ 1000 ∧ Dt CP M H d x ∧
  (cutB (rs.drop n) d = true → ∀ l' qs H', FK [a] H H' → H l' = none → l' ≠ a → DiskAt C H' a l' rs.length qs → qs.length = rs.length → Q .non H') ∧ (cutB (rs.drop n) d = false → ∀ H', Same H H' → E (.ref CN) none H')
def spDrop (CP : Addr → Prop) (C CN : Addr) : Sp := fun vs H Q E => ∃ a l n rs M d x, vs = [.ref a, x] ∧ DiskAt C H a l n rs ∧ Dt CP M H d x ∧
  (∀ (k : Nat) l' H', d = .int (k : Int) → k ≤ rs.length → FK [a] H H' → H l' = none → l' ≠ a → DiskAt C H' a l' (min n k) (rs.take k) → Q .non H') ∧ (isNb ((rs.length : Nat) + 1) d = false → ∀ H', Same H H' → E (.ref CN) none H')
def spDCopy (C : Addr) : Sp := fun vs H Q _ => ∃ a l n rs, vs = [.ref a] ∧ DiskAt C H a l n rs ∧ ∀ a2 l2 H', Same H H' → H a2 = none → H l2 = none → DiskAt C H' a2 l2 n rs → Q (.ref a2) H'
theorem rd_meth {C : Addr} {m : Str} {sp : Sp} {dvs : List V} {E : XK} {ta : TE} {t : TA} {σ : L2.St} {H : Hp} {Q : VK} (h : ta σ H fun x H1 => ∃ a dx fs, x = .ref a ∧ H1 a = some (.ins C dx fs) ∧ fs.lookup m = none ∧ t σ H1 fun vs H2 => sp (x :: (vs ++ dvs)) H2 Q E) : tMeth C m sp dvs E ta t σ H Q := h
theorem rd_sfld {K : PySem.W.Frag} {ta tv : TE} {f : Str} {D : Ends} {σ : L2.St} {H : Hp} (h : tv σ H fun y H1 => ta σ H1 fun x H2 => ∃ a C dx fs, x = .ref a ∧ H2 a = some (.ins C dx fs) ∧ Cls K C ∧ NoAttr K C f ∧ fs.length < 1000 ∧ D.nx σ (upd H2 a (.ins C dx (putF f y fs)))) : sFld K ta tv f D σ H := h
section
variable {P : Program} {w : World} {K : PySem.W.Frag} {mg : Str → Option Value} {base : Heap}
local macro_rules | `(tactic| walk_at "rd") => `(tactic| (repeat (first
  | ((with_reducible refine' rd_var ?h0 ?_); (case h0 => rfl))
  | with_reducible refine rd_c ?_
  | with_reducible refine rd_op ?_
  | with_reducible refine rd_nil ?_
  | with_reducible refine rd_cons ?_
  | with_reducible refine rd_tup ?_
  | with_reducible refine rd_lst ?_
  | with_reducible refine rd_ifs ?_
  | with_reducible refine rd_seq ?_
  | with_reducible refine rd_next ?_
  | with_reducible refine rd_ret ?_
  | with_reducible refine rd_asg ?_
  | ((with_reducible refine' rd_gset ?hs ?_); (case hs => ((simp only [L2.start, List.map_cons, List.map_nil, List.length_cons, List.length_nil, List.cons_append, List.nil_append, List.set_cons_zero, List.set_cons_succ, Nat.reduceAdd, Nat.reduceSub, Nat.zero_add, List.reduceReplicate]); rfl)))
  | with_reducible refine rd_drop ?_
  | with_reducible refine rd_test ?_
  | with_reducible refine rd_B ?_
  | with_reducible refine rd_bl ?_
  | with_reducible refine rd_blP ?_
  | with_reducible refine rd_andV ?_
  | with_reducible refine rd_orV ?_
  | with_reducible refine rd_notV ?_
  | with_reducible refine rd_and ?_
  | with_reducible refine rd_or ?_
  | with_reducible refine rd_not ?_
  | with_reducible refine rd_chain ?_
  | with_reducible refine rd_dput ?_
  | with_reducible refine rd_dget ?_
  | with_reducible refine rd_cb ?_
  | with_reducible refine rd_call ?_
  | with_reducible refine rd_un ?_
  | with_reducible refine rd_sl ?_
  | with_reducible refine rd_nopart ?_
  | with_reducible refine rd_part ?_
  | with_reducible refine rd_intP ?_
  | with_reducible refine rd_rU ?_
  | with_reducible refine rd_fld ?_
  | with_reducible refine rd_eqI ?_
  | with_reducible refine rd_neI ?_
  | with_reducible refine rd_mko ?_
  | with_reducible refine rd_bm ?_
  | with_reducible refine rd_gsub ?_
  | with_reducible refine rd_i0 ?_)))
theorem ok_number_init (T : Tx K mg) (B : Bk K mg T) : FnOk P w K mg base CX0 1 B.NoNumber_init.f B.NoNumber_init.fd ["self"] spPass := by
  refine B.NoNumber_init.F.ok sc_NoNumber_init (fun vs H Q E h => ?_) (fun cdv A outer s H vs Q E hr h => ?_)
  · obtain ⟨a, rfl, _⟩ := h
    rfl
  · obtain ⟨a, rfl, q⟩ := h
    exact ⟨_, (pss_one ps_pass), q⟩
theorem ok_cut_init (T : Tx K mg) (B : Bk K mg T) : FnOk P w K mg base CX0 1 B.NoCut_init.f B.NoCut_init.fd ["self"] spPass := by
  refine B.NoCut_init.F.ok sc_NoCut_init (fun vs H Q E h => ?_) (fun cdv A outer s H vs Q E hr h => ?_)
  · obtain ⟨a, rfl, _⟩ := h
    rfl
  · obtain ⟨a, rfl, q⟩ := h
    exact ⟨_, (pss_one ps_pass), q⟩
theorem ok_blocks_init (T : Tx K mg) (B : Bk K mg T) : FnOk P w K mg base CX0 1 B.NoBlocks_init.f B.NoBlocks_init.fd ["self"] spPass := by
  refine B.NoBlocks_init.F.ok sc_NoBlocks_init (fun vs H Q E h => ?_) (fun cdv A outer s H vs Q E hr h => ?_)
  · obtain ⟨a, rfl, _⟩ := h
    rfl
  · obtain ⟨a, rfl, q⟩ := h
    exact ⟨_, (pss_one ps_pass), q⟩
theorem ok_disk_init (T : Tx K mg) (B : Bk K mg T) : FnOk P w K mg base CX0 1 B.Disk_init.f B.Disk_init.fd ["self"] (spDiskInit T.c_Disk) := by
  refine B.Disk_init.F.ok sc_Disk_init (fun vs H Q E h => ?_) (fun cdv A outer s H vs Q E hr h => ?_)
  · obtain ⟨a, dx, rfl, _⟩ := h
    rfl
  · obtain ⟨a, dx, rfl, ha, q⟩ := h
    refine ⟨_, (pss_cons (ps_fld (pv 0) (pe_lst pa_nil) rfl)
      (pss_one (ps_fld (pv 0) pe_int rfl))), ?_⟩
    walk_at "rd"
    refine rd_sfld ?_
    walk_at "rd"
    refine rd_disp rfl fun l nl => ?_
    have nal : a ≠ l := ne_of_none ha nl
    walk_at "rd"
    refine ⟨a, T.c_Disk, dx, _, rfl, (upd_ne nal).trans ha, T.W_Disk.cl, T.na_rows, (by show 0 < 1000; decide), ?_⟩
    dsimp only
    walk_at "rd"
    refine rd_sfld ?_
    walk_at "rd"
    refine ⟨a, T.c_Disk, dx, _, rfl, upd_same, T.W_Disk.cl, T.na_firm, (by show 1 < 1000; decide), ?_⟩
    dsimp only
    have f1 : FK [a] H (upd H l (.lst [])) := FK.new nl
    have f2 := f1.trans (FK.ins (o := .ins T.c_Disk dx (putF ("rows" : Str) (.ref l) [])) (by simp) ((upd_ne nal).trans ha))
    have f3 := f2.trans (FK.ins (o := .ins T.c_Disk dx (putF ("firm" : Str) (.int 0) (putF ("rows" : Str) (.ref l) []))) (by simp) upd_same)
    refine q l _ f3 nl nal.symm ⟨⟨dx, upd_same⟩, [], ?_, RAll.nil⟩
    rw [upd_ne nal.symm, upd_ne nal.symm]
    exact upd_same
theorem ok_write (T : Tx K mg) (B : Bk K mg T) : FnOk P w K mg base (L2.CX P w) 7 B.Disk_write.f B.Disk_write.fd ["self", "row"] (spWrite T.CP T.c_Disk T.c_NoRow) := by
  have G_check_row := ok_check_row (P := P) (w := w) (base := base) T B
  refine B.Disk_write.F.okX sc_Disk_write (fun vs H Q E h => ?_) (fun cdv A outer s H vs Q E hr h => ?_)
  · obtain ⟨a, l, n, rs, M, d, x, rfl, _⟩ := h
    rfl
  · obtain ⟨a, l, n, rs, M, d, x, rfl, hd, hdx, hl9, hl, q, q0⟩ := h
    have nal := hd.ne
    refine ⟨_, (pss_cons (ps_expr (pe_call G_check_row (hr.mono (by omega)) rfl B.check_row.m B.check_row.F.kp B.check_row.b .nil (passes_call (takes_of rfl rfl rfl rfl) (fun _ _ _ _ h => h)) (pa_cons (pv 1) pa_nil)))
      (pss_cons (ps_expr (pe_bm PySem.F.plainAttrs_list PySem.F.slot_list_append PySem.F.type_list_append mt_append (pe_fld (pv 0) rfl) (pa_cons (pv 1) pa_nil)))
      (pss_one (ps_ret (pe_op op_sub (pe_callB call_len_seq (by rfl) T.b_len (by decide +kernel) (pa_cons (pe_fld (pv 0) rfl) pa_nil)) pe_int))))), ?_⟩
    walk_at "rd"
    refine ⟨M, d, x, rfl, hdx, hl9, fun H1 s1 => ⟨fun z => ?_, fun z => q0 z H1 s1⟩⟩
    obtain ⟨r, rfl, hb⟩ := isRow_form z
    obtain ⟨t, xs, rfl, ht0, hxs⟩ := dt_tup' hdx
    have exs := dt_ints' hxs
    subst exs
    have ht : RowAt H t r := ⟨ht0, hb, by have : (r.map PyData.int).length ≤ 900000 := hl9; simpa using this⟩
    have hd1 := hd.s s1
    have ht1 := ht.kt (KT.same s1)
    obtain ⟨⟨dx, ha⟩, as, has, hra⟩ := id hd1
    walk_at "rd"
    refine ⟨a, T.c_Disk, dx, _, _, rfl, ha, T.W_Disk.cl, T.na_rows, dF_rows _ _, ?_⟩
    refine ⟨.inl ⟨rfl, _, SqL.of has⟩, ?_⟩
    walk_at "rd"
    have la := hra.1
    refine rd_append has (small' (by rw [List.length_map]; omega)) ?_
    walk_at "rd"
    refine ⟨a, T.c_Disk, dx, _, _, rfl, (upd_ne nal).trans ha, T.W_Disk.cl, T.na_rows, dF_rows _ _, ?_⟩
    have f2 : FK [l] H1 (upd H1 l (.lst ((as ++ [t]).map V.ref))) := FK.mutL (by simp) has
    rw [show as.map V.ref ++ [V.ref t] = (as ++ [t]).map V.ref by simp]
    walk_at "rd"
    refine ⟨l, _, rfl, .inl (SqL.of upd_same), ?_⟩
    walk_at "rd"
    have e : ((((as ++ [t]).map V.ref).length : Nat) : Int) - 1 = (rs.length : Nat) := by simp; omega
    rw [e]
    exact q r _ rfl hb ((FK.same s1).trans f2) ⟨⟨dx, (upd_ne nal).trans ha⟩, LsAt.upd f2.2 (hra.app (.one ht1))⟩
theorem ok_sync (T : Tx K mg) (B : Bk K mg T) : FnOk P w K mg base CX0 1 B.Disk_sync.f B.Disk_sync.fd ["self"] (spSync T.c_Disk) := by
  refine B.Disk_sync.F.ok sc_Disk_sync (fun vs H Q E h => ?_) (fun cdv A outer s H vs Q E hr h => ?_)
  · obtain ⟨a, l, n, rs, rfl, _⟩ := h
    rfl
  · obtain ⟨a, l, n, rs, rfl, hd, q⟩ := h
    have nal := hd.ne
    obtain ⟨⟨dx, ha⟩, as, has, hra⟩ := id hd
    refine ⟨_, (pss_cons (ps_set (i := 1) sc_Disk_sync.nd rfl (Or.inl rfl) (pe_op op_sub (pe_callB call_len_seq (by rfl) T.b_len (by decide +kernel) (pa_cons (pe_fld (pv 0) rfl) pa_nil)) (pe_fld (pv 0) rfl)))
      (pss_cons (ps_fld (pv 0) (pe_callB call_len_seq (by rfl) T.b_len (by decide +kernel) (pa_cons (pe_fld (pv 0) rfl) pa_nil)) rfl)
      (pss_one (ps_ret (pv 1))))), ?_⟩
    walk_at "rd"
    refine ⟨a, T.c_Disk, dx, _, _, rfl, ha, T.W_Disk.cl, T.na_rows, dF_rows _ _, ?_⟩
    walk_at "rd"
    refine ⟨l, _, rfl, .inl (SqL.of has), ?_⟩
    walk_at "rd"
    refine ⟨a, T.c_Disk, dx, _, _, rfl, ha, T.W_Disk.cl, T.na_firm, dF_firm _ _, ?_⟩
    walk_at "rd"
    refine rd_sfld ?_
    walk_at "rd"
    refine ⟨a, T.c_Disk, dx, _, _, rfl, ha, T.W_Disk.cl, T.na_rows, dF_rows _ _, ?_⟩
    walk_at "rd"
    refine ⟨l, _, rfl, .inl (SqL.of has), ?_⟩
    walk_at "rd"
    refine ⟨a, T.c_Disk, dx, _, rfl, ha, T.W_Disk.cl, T.na_firm, (by show 2 < 1000; decide), ?_⟩
    rw [dF_set]
    dsimp only
    walk_at "rd"
    rw [List.length_map, hra.1]
    have f : FK [a] H (upd H a (.ins T.c_Disk dx (dF l rs.length))) := FK.ins (by simp) ha
    exact q _ f ⟨⟨dx, upd_same⟩, as, (upd_ne nal.symm).trans has, hra.kt f.2⟩
theorem ok_blocks (T : Tx K mg) (B : Bk K mg T) : FnOk P w K mg base CX0 1 B.Disk_blocks.f B.Disk_blocks.fd ["self"] (spBlocks T.c_Disk) := by
  refine B.Disk_blocks.F.ok sc_Disk_blocks (fun vs H Q E h => ?_) (fun cdv A outer s H vs Q E hr h => ?_)
  · obtain ⟨a, l, n, rs, rfl, _⟩ := h
    rfl
  · obtain ⟨a, l, n, rs, rfl, hd, q⟩ := h
    obtain ⟨⟨dx, ha⟩, as, has, hra⟩ := id hd
    refine ⟨_, (pss_one (ps_ret (pe_callTy call_list_of (by rfl) T.b_list (by decide +kernel) (pa_cons (pe_fld (pv 0) rfl) pa_nil)))), ?_⟩
    walk_at "rd"
    refine ⟨a, T.c_Disk, dx, _, _, rfl, ha, T.W_Disk.cl, T.na_rows, dF_rows _ _, ?_⟩
    walk_at "rd"
    refine ⟨l, _, rfl, .inl (SqL.of has), fun b nb => ?_⟩
    walk_at "rd"
    have s1 := same_new (o := .lst (as.map V.ref)) nb
    exact q b _ s1 nb ⟨as, upd_same, hra.kt (KT.same s1)⟩
theorem ok_synced (T : Tx K mg) (B : Bk K mg T) : FnOk P w K mg base CX0 1 B.Disk_synced.f B.Disk_synced.fd ["self"] (spSynced T.c_Disk) := by
  refine B.Disk_synced.F.ok sc_Disk_synced (fun vs H Q E h => ?_) (fun cdv A outer s H vs Q E hr h => ?_)
  · obtain ⟨a, l, n, rs, rfl, _⟩ := h
    rfl
  · obtain ⟨a, l, n, rs, rfl, hd, q⟩ := h
    obtain ⟨⟨dx, ha⟩, as, has, hra⟩ := id hd
    refine ⟨_, (pss_one (ps_ret (pe_fld (pv 0) rfl))), ?_⟩
    walk_at "rd"
    refine ⟨a, T.c_Disk, dx, _, _, rfl, ha, T.W_Disk.cl, T.na_firm, dF_firm _ _, ?_⟩
    walk_at "rd"
    exact q
end
end Mw

/-! X2 -/
namespace Mw
open PySem L2
/-- a comprehension over zip of a list and a tuple of one length -/
theorem lc_mz {K : PySem.W.Frag} {a b : Addr} {xs ys : List V} {g : TG} {tt : TT} {te : TE} {vs : List Nat} {σ : L2.St} {H1 : Hp} {D : Addr} {Qd : Hp → Prop} (hl : xs.length = ys.length) (Pv : Nat → Hp → Prop) (h0 : Pv 0 (upd H1 D (.lst [])))
    (hq : ∀ i H, Pv i H → SqL K H a xs ∧ SqT K H b ys)
    (hs : ∀ (i : Nat) (x y : V) (t : Addr) (H : Hp), xs[i]? = some x → ys[i]? = some y → Pv i H → H t = none → g (.ref t) (wipe σ vs) (upd H t (.tup [x, y])) fun σ2 H2 => wipe σ2 vs = wipe σ vs ∧
      tt σ2 H2 fun b H3 => if b = true then te σ2 H3 fun y H4 => ∃ acc, H4 D = some (.lst acc) ∧ acc.length < sizeLine ∧ Pv (i + 1) (upd H4 D (.lst (acc ++ [y]))) else Pv (i + 1) H3)
    (hd : ∀ H, Pv ys.length H → Qd H) :
    ∃ W : Nat → Nat → Hp → Prop, (∃ m, W 0 m (upd H1 D (.lst []))) ∧ ∀ i m H, W i m H → (Imz K a b).stop i H ∧ Qd H ∨ (Imz K a b).go i H ∧ ∃ Nx : Hp → Prop, (∀ H', Nx H' → ∃ m', m' < m ∧ W (i + 1) m' H') ∧
      ∀ x H', (Imz K a b).yld i H x H' → g x (wipe σ vs) H' fun σ2 H2 => wipe σ2 vs = wipe σ vs ∧ tt σ2 H2 fun b H3 => if b = true then te σ2 H3 fun y H4 => ∃ acc, H4 D = some (.lst acc) ∧ acc.length < sizeLine ∧ Nx (upd H4 D (.lst (acc ++ [y]))) else Nx H3 := by
  refine ⟨fun i m H => m = ys.length - i ∧ i ≤ ys.length ∧ Pv i H, ⟨_, rfl, Nat.zero_le _, h0⟩, ?_⟩
  rintro i m H ⟨rfl, hi, hP⟩
  obtain ⟨q1, q2⟩ := hq i H hP
  by_cases e : i = ys.length
  · exact .inl ⟨⟨xs, ys, q1, q2, .inr (Nat.le_of_eq e.symm)⟩, hd H (e ▸ hP)⟩
  · have hlt : i < ys.length := by omega
    have hy : ys[i]? = some ys[i] := by simp [hlt]
    have hx : xs[i]? = some (xs[i]'(by omega)) := by simp
    refine .inr ⟨⟨xs, ys, _, _, q1, q2, hx, hy⟩, Pv (i + 1), fun H' h => ⟨ys.length - (i + 1), by omega, rfl, by omega, h⟩, ?_⟩
    rintro v H' ⟨t, x, y, rfl, ht, rfl, ex, ey⟩
    exact hs i x y t H (ex xs q1) (ey ys q2) hP ht
theorem rd_izipLT {K : PySem.W.Frag} {ta : TA} {σ : L2.St} {H : Hp} {R : It → Hp → Prop} (h : ta σ H fun vs H1 => ∃ a b xs ys, vs = [.ref a, .ref b] ∧ SqL K H1 a xs ∧ SqT K H1 b ys ∧ R (Imz K a b) H1) : iZipLT K ta σ H R := h
theorem ks_get {ks : List Int} {i : Nat} {v : V} (h : (ks.map V.int)[i]? = some v) : ∃ k, v = .int k ∧ ks[i]? = some k := by
  obtain ⟨k, e, rfl⟩ := mapint_get h
  exact ⟨k, rfl, e⟩
def rLenS (K : PySem.W.Frag) : List V → Hp → VK → Prop := fun xs H Q => ∃ p ys, xs = [V.ref p] ∧ (SqL K H p ys ∨ SqT K H p ys) ∧ Q (V.int (ys.length : Nat)) H
theorem all_rep (n : Nat) : (List.replicate n true).all id = true := by
  rw [List.all_eq_true]
  intro x hx
  rw [List.eq_of_mem_replicate hx]
  rfl
def isTupN (m : Int) : PyData → Bool
  | .tuple ds => decide ((ds.length : Int) = m)
  | _ => false
def spTupOf (CP : Addr → Prop) : Sp := fun vs H Q _ => ∃ M m d x, vs = [.int m, x] ∧ Dt CP M H d x ∧ Q (.bl (isTupN m d)) H
theorem cutB_no {rs : List (List Int)} {d : PyData} (h : isTupN (rs.length : Nat) d = false) : cutB rs d = false := by
  cases d with
  | tuple ds =>
    have h' : decide ((ds.length : Int) = (rs.length : Nat)) = false := h
    show (decide _ && _) = false
    rw [h', Bool.false_and]
  | _ => rfl
/-- the comprehension that asks each number -/
def askR (rs : List (List Int)) (ds : List PyData) : List Bool := (rs.zip ds).map fun x => isNb ((x.1.length : Nat) + 1) x.2
theorem askR_get {rs : List (List Int)} {ds : List PyData} {i : Nat} {r : List Int} {d : PyData} (h1 : rs[i]? = some r) (h2 : ds[i]? = some d) : (askR rs ds)[i]? = some (isNb ((r.length : Nat) + 1) d) := by
  unfold askR
  rw [List.getElem?_map, (List.getElem?_zip_eq_some (z := (r, d))).mpr ⟨h1, h2⟩]
  rfl
/-- what is a cut -/
theorem cutB_form {rs : List (List Int)} {d : PyData} (h : cutB rs d = true) : ∃ ks : List Int, d = .tuple (ks.map PyData.int) ∧ CutOk rs ks := by
  cases d with
  | tuple ds =>
    have h' : (decide ((ds.length : Int) = (rs.length : Nat)) && (askR rs ds).all id) = true := h
    rw [Bool.and_eq_true] at h'
    obtain ⟨h1, h2⟩ := h'
    have hl : ds.length = rs.length := by have := of_decide_eq_true h1; omega
    have each : ∀ (i : Nat) (d : PyData) (r : List Int), ds[i]? = some d → rs[i]? = some r → isNb ((r.length : Nat) + 1) d = true := fun i d r e f => by
      have := List.all_eq_true.mp h2 _ (List.mem_of_getElem? (askR_get f e))
      simpa using this
    have allI : ∀ d ∈ ds, ∃ k : Int, d = .int k := fun d hd => by
      obtain ⟨i, e⟩ := List.getElem?_of_mem hd
      have hi := (List.getElem?_eq_some_iff.mp e).1
      have := each i d _ e (List.getElem?_eq_getElem (show i < rs.length by omega))
      cases d with
      | int k => exact ⟨k, rfl⟩
      | _ => cases this
    have form : ∀ es : List PyData, (∀ d ∈ es, ∃ k : Int, d = .int k) → ∃ ks : List Int, es = ks.map PyData.int := fun es => by
      induction es with
      | nil => exact fun _ => ⟨[], rfl⟩
      | cons d es ih =>
        intro he
        obtain ⟨k, rfl⟩ := he d (by simp)
        obtain ⟨ks, rfl⟩ := ih fun c hc => he c (by simp [hc])
        exact ⟨k :: ks, rfl⟩
    obtain ⟨ks, rfl⟩ := form ds allI
    refine ⟨ks, rfl, by simpa using hl, fun i k r e f => ?_⟩
    have := each i (.int k) r (by rw [List.getElem?_map, e]; rfl) f
    have h3 : (decide (0 ≤ k) && decide (k < ((r.length : Nat) : Int) + 1)) = true := this
    simp only [Bool.and_eq_true, decide_eq_true_eq] at h3
    omega
  | _ => cases h
section
variable {P : Program} {w : World} {K : PySem.W.Frag} {mg : Str → Option Value} {base : Heap}
local macro_rules | `(tactic| walk_at "rd") => `(tactic| (repeat (first
  | ((with_reducible refine' rd_var ?h0 ?_); (case h0 => rfl))
  | with_reducible refine rd_c ?_
  | with_reducible refine rd_op ?_
  | with_reducible refine rd_nil ?_
  | with_reducible refine rd_cons ?_
  | with_reducible refine rd_tup ?_
  | with_reducible refine rd_lst ?_
  | with_reducible refine rd_ifs ?_
  | with_reducible refine rd_seq ?_
  | with_reducible refine rd_next ?_
  | with_reducible refine rd_ret ?_
  | with_reducible refine rd_asg ?_
  | ((with_reducible refine' rd_gset ?hs ?_); (case hs => ((simp only [L2.start, List.map_cons, List.map_nil, List.length_cons, List.length_nil, List.cons_append, List.nil_append, List.set_cons_zero, List.set_cons_succ, Nat.reduceAdd, Nat.reduceSub, Nat.zero_add, List.reduceReplicate]); rfl)))
  | with_reducible refine rd_drop ?_
  | with_reducible refine rd_test ?_
  | with_reducible refine rd_B ?_
  | with_reducible refine rd_bl ?_
  | with_reducible refine rd_blP ?_
  | with_reducible refine rd_andV ?_
  | with_reducible refine rd_orV ?_
  | with_reducible refine rd_notV ?_
  | with_reducible refine rd_and ?_
  | with_reducible refine rd_or ?_
  | with_reducible refine rd_not ?_
  | with_reducible refine rd_chain ?_
  | with_reducible refine rd_dput ?_
  | with_reducible refine rd_dget ?_
  | with_reducible refine rd_cb ?_
  | with_reducible refine rd_call ?_
  | with_reducible refine rd_un ?_
  | with_reducible refine rd_sl ?_
  | with_reducible refine rd_nopart ?_
  | with_reducible refine rd_part ?_
  | with_reducible refine rd_intP ?_
  | with_reducible refine rd_rU ?_
  | with_reducible refine rd_fld ?_
  | with_reducible refine rd_eqI ?_
  | with_reducible refine rd_neI ?_
  | with_reducible refine rd_mko ?_
  | with_reducible refine rd_bm ?_
  | with_reducible refine rd_gsub ?_
  | with_reducible refine rd_i0 ?_)))
theorem ok_is_tuple_of (T : Tx K mg) (B : Bk K mg T) : FnOk P w K mg base CX0 1 B.is_tuple_of.f B.is_tuple_of.fd ["many", "thing"] (spTupOf T.CP) := by
  refine B.is_tuple_of.F.ok sc_is_tuple_of (fun vs H Q E h => ?_) (fun cdv A outer s H vs Q E hr h => ?_)
  · obtain ⟨M, m, d, x, rfl, _⟩ := h
    rfl
  · obtain ⟨M, m, d, x, rfl, hd, q⟩ := h
    refine ⟨_, (pss_one (ps_ret (pe_and (pe_callB call_isi (by rfl) T.b_isinstance (by decide +kernel) (pa_cons (pv 1) (pa_cons (pe_bltn (v := .ty "tuple") (by rfl) T.b_tuple (by decide +kernel) rfl) pa_nil))) (pe_one (pe_cmpR op_eq (pe_callB call_len_seq (by rfl) T.b_len (by decide +kernel) (pa_cons (pv 1) pa_nil)) (pv 0) (nomark _)))))), ?_⟩
    walk_at "rd"
    refine dt_isT T.W hd ?_
    walk_at "rd"
    cases d with
    | tuple ds =>
      obtain ⟨t, xs, rfl, ht, hx⟩ := dt_tup' hd
      refine rd_yes rfl ?_
      walk_at "rd"
      refine ⟨t, _, rfl, .inr (SqT.of ht), ?_⟩
      walk_at "rd"
      rw [← hx.len]
      exact q
    | _ =>
      refine rd_no rfl ?_
      exact q
theorem ok_is_cut (T : Tx K mg) (B : Bk K mg T) : FnOk P w K mg base CX0 4 B.is_cut.f B.is_cut.fd ["waiting", "thing"] (spIsCut T.CP) := by
  have G_is_tuple_of := ok_is_tuple_of (P := P) (w := w) (base := base) T B
  have G_is_number_below := ok_is_number_below (P := P) (w := w) (base := base) T B
  refine B.is_cut.F.ok sc_is_cut (fun vs H Q E h => ?_) (fun cdv A outer s H vs Q E hr h => ?_)
  · obtain ⟨wt, rs, M, d, x, rfl, _⟩ := h
    rfl
  · obtain ⟨wt, rs, M, d, x, rfl, ⟨as, has, hra⟩, hd, hl, q⟩ := h
    have la := hra.1
    refine ⟨_, (pss_cons (ps_if (pt_not (pt_val (pe_call G_is_tuple_of (hr.mono (by omega)) rfl B.is_tuple_of.m B.is_tuple_of.F.kp B.is_tuple_of.b .nil pass0 (pa_cons (pe_callB call_len_seq (by rfl) T.b_len (by decide +kernel) (pa_cons (pv 0) pa_nil)) (pa_cons (pv 1) pa_nil))))) (pss_one (ps_ret pe_bl)) pss_nil)
      (pss_one (ps_ret (pe_callB (cr_all rfl) (by rfl) T.b_all (by decide +kernel) (pa_cons (pe_lc (own := [("row", 2), ("many", 3)]) (g := (gTup K 2 (gCons (gName 2) (gCons (gName 3) gNil)))) rfl sc_is_cut.nd (pi_zipLT (by rfl) T.b_zip (pa_cons (pv 0) (pa_cons (pv 1) pa_nil))) (blkOk_by (own := [("row", 2), ("many", 3)]) (N := ["waiting", "thing", "row", "many"]) (sc := defScope s_is_cut) (by decide +kernel)) (fun _ _ _ _ _ => (pg_tup (by rfl) (pgs_cons (pg_name (i := 2) sc_is_cut.nd rfl (Or.inl rfl)) (pgs_cons (pg_name (i := 3) sc_is_cut.nd rfl (Or.inl rfl)) pgs_nil)))) (fun _ _ _ _ _ => pts_nil) (fun _ _ _ _ _ => (pe_call G_is_number_below (hr.mono (by omega)) rfl B.is_number_below.m B.is_number_below.F.kp B.is_number_below.b .nil pass0 (pa_cons (pe_op op_add (pe_callB (id := "len") (r := rLenS K) call_len_seq (by rfl) T.b_len (by decide +kernel) (pa_cons (pv 2) pa_nil)) pe_int) (pa_cons (pv 3) pa_nil))))) pa_nil))))), ?_⟩
    walk_at "rd"
    refine ⟨wt, _, rfl, .inl (SqL.of has), ?_⟩
    walk_at "rd"
    refine ⟨M, _, d, x, rfl, hd, ?_⟩
    rw [List.length_map, la]
    walk_at "rd"
    refine rd_ite (fun h1 => ?_) (fun h1 => ?_)
    · walk_at "rd"
      have z := q H (Same.refl H)
      rw [cutB_no (by simpa using h1)] at z
      exact z
    · have h1' : isTupN (rs.length : Nat) d = true := by simpa using h1
      cases d with
      | tuple ds =>
        obtain ⟨t, xs, rfl, ht, hx⟩ := dt_tup' hd
        have lx := hx.len
        have hlen : ds.length = rs.length := by
          have : decide ((ds.length : Int) = (rs.length : Nat)) = true := h1'
          have := of_decide_eq_true this
          omega
        walk_at "rd"
        refine rd_izipLT ?_
        walk_at "rd"
        refine ⟨wt, t, _, _, rfl, SqL.of has, SqT.of ht, fun D hD => lc_mz (K := K) (a := wt) (b := t) (xs := as.map V.ref) (ys := xs) (by rw [List.length_map, la]; omega)
          (fun i H1 => Same H H1 ∧ H1 D = some (.lst (((askR rs ds).take i).map V.bl))) ⟨same_new hD, upd_same⟩ (fun i H1 hh => ⟨SqL.of (hh.1 _ _ has), SqT.of (hh.1 _ _ ht)⟩) ?_ ?_⟩
        · rintro i y1 y2 tt H1 hx1 hy1 ⟨hs, hacc⟩ htt
          obtain ⟨a, r, rfl, ea, er, hr⟩ := hra.get hx1
          obtain ⟨d1, ed, hd1⟩ := hx.get' hy1
          have s2 := hs.trans (same_new (o := .tup [V.ref a, y2]) htt)
          have hDt : D ≠ tt := ne_of_none hacc htt
          refine ⟨tt, _, rfl, SqT.of upd_same, rfl, _, _, rfl, _, _, rfl, rfl, ?_⟩
          refine ⟨rfl, ?_⟩
          refine rd_tyes ?_
          refine rd_yes rfl ?_
          walk_at "rd"
          refine ⟨a, _, rfl, .inr (SqT.of (s2 _ _ hr.1)), ?_⟩
          walk_at "rd"
          refine ⟨M, _, d1, y2, rfl, hd1.s s2, ?_⟩
          rw [List.length_map]
          refine ⟨_, (upd_ne hDt).trans hacc, small' (by rw [List.length_map, List.length_take]; have := (List.getElem?_eq_some_iff.mp ea).1; omega), fun b o eb => (upd_ne (ne_of_none eb hD)).trans (s2 b o eb), ?_⟩
          rw [upd_same, take_snoc (askR_get er ed), List.map_append]
          rfl
        · rintro H1 ⟨hs, hacc⟩
          have ll : (askR rs ds).length = xs.length := by
            unfold askR
            rw [List.length_map, List.length_zip]
            omega
          rw [← ll, List.take_length] at hacc
          refine ⟨D, _, rfl, SqL.of hacc, ?_⟩
          have z := q H1 hs
          rw [show cutB rs (.tuple ds) = (decide ((ds.length : Int) = (rs.length : Nat)) && (askR rs ds).all id) from rfl, show decide ((ds.length : Int) = (rs.length : Nat)) = true from h1', Bool.true_and] at z
          exact z
      | _ => cases h1'
theorem ok_cut (T : Tx K mg) (B : Bk K mg T) : FnOk P w K mg base (L2.CX P w) 5 B.Disk_cut.f B.Disk_cut.fd ["self", "kept"] (spCut T.CP T.c_Disk T.c_NoCut) := by
  have G_is_cut := ok_is_cut (P := P) (w := w) (base := base) T B
  have G_NoCut_init := ok_cut_init (P := P) (w := w) (base := base) T B
  refine B.Disk_cut.F.okX sc_Disk_cut (fun vs H Q E h => ?_) (fun cdv A outer s H vs Q E hr h => ?_)
  · obtain ⟨a, l, n, rs, M, d, x, rfl, _⟩ := h
    rfl
  · obtain ⟨a, l, n, rs, M, d, x, rfl, hd, hn, hl, hdx, q, q0⟩ := h
    have nal := hd.ne
    obtain ⟨⟨dx, ha⟩, as, has, hra⟩ := id hd
    have la := hra.1
    refine ⟨_, (pss_cons (ps_set (i := 2) sc_Disk_cut.nd rfl (Or.inl rfl) (pe_slice sl_list (pe_fld (pv 0) rfl) (po_some (pe_fld (pv 0) rfl)) po_none))
      (pss_cons (ps_if (pt_not (pt_val (pe_call G_is_cut (hr.mono (by omega)) rfl B.is_cut.m B.is_cut.F.kp B.is_cut.b .nil pass0 (pa_cons (pv 2) (pa_cons (pv 1) pa_nil))))) (pss_one (ps_raise rfl (takes_of rfl rfl rfl rfl) (pmk_pass T.x_NoCut B.NoCut_init.a B.NoCut_init.t G_NoCut_init (hr.mono (by omega)) B.NoCut_init.b pass0 rfl T.g_NoCut))) pss_nil)
      (pss_cons (ps_fld (pv 0) (pe_op op_cat (pe_slice sl_list (pe_fld (pv 0) rfl) po_none (po_some (pe_fld (pv 0) rfl))) (pe_lc (own := [("row", 3), ("many", 4)]) (g := (gTup K 2 (gCons (gName 3) (gCons (gName 4) gNil)))) rfl sc_Disk_cut.nd (pi_zipLT (by rfl) T.b_zip (pa_cons (pv 2) (pa_cons (pv 1) pa_nil))) (blkOk_by (own := [("row", 3), ("many", 4)]) (N := ["self", "kept", "waiting", "row", "many"]) (sc := defScope s_Disk_cut) (by decide +kernel)) (fun _ _ _ _ _ => (pg_tup (by rfl) (pgs_cons (pg_name (i := 3) sc_Disk_cut.nd rfl (Or.inl rfl)) (pgs_cons (pg_name (i := 4) sc_Disk_cut.nd rfl (Or.inl rfl)) pgs_nil)))) (fun _ _ _ _ _ => pts_nil) (fun _ _ _ _ _ => (pe_slice (r := rSlA K) sl_tupA (pv 3) po_none (po_some (pv 4)))))) rfl)
      (pss_one (ps_fld (pv 0) (pe_callB call_len_seq (by rfl) T.b_len (by decide +kernel) (pa_cons (pe_fld (pv 0) rfl) pa_nil)) rfl))))), ?_⟩
    walk_at "rd"
    refine ⟨a, T.c_Disk, dx, _, _, rfl, ha, T.W_Disk.cl, T.na_rows, dF_rows _ _, ?_⟩
    walk_at "rd"
    refine ⟨a, T.c_Disk, dx, _, _, rfl, ha, T.W_Disk.cl, T.na_firm, dF_firm _ _, ?_⟩
    walk_at "rd"
    refine ⟨l, _, rfl, SqL.of has, fun wt nw => ?_⟩
    have e1 : cutV (as.map V.ref) (some (n : Int)) none = (as.drop n).map V.ref := by
      unfold cutV
      rw [List.length_map, HT.sIx_none, HT.sIx_nat, Nat.min_eq_left (by omega), List.take_of_length_le (by rw [List.length_drop, List.length_map]; omega), List.map_drop]
    rw [e1]
    have s1 := same_new (o := .lst ((as.drop n).map V.ref)) nw
    have hw : LsAt (upd H wt (.lst ((as.drop n).map V.ref))) wt (rs.drop n) := ⟨_, upd_same, (hra.drop n).kt (KT.same s1)⟩
    walk_at "rd"
    refine ⟨wt, rs.drop n, M, d, x, rfl, hw, hdx.s s1, by rw [List.length_drop]; omega, fun H1 s2 => ?_⟩
    walk_at "rd"
    refine rd_ite (fun hb => ?_) (fun hb => ?_)
    · intro e he
      exact ⟨⟨e, rfl, rfl, rfl⟩, q0 (by simpa using hb) _ (s1.trans s2)⟩
    have hcb : cutB (rs.drop n) d = true := by simpa using hb
    obtain ⟨ks, rfl, hc⟩ := cutB_form hcb
    obtain ⟨t, xs, rfl, ht, hxs⟩ := dt_tup' hdx
    have exs := dt_ints' hxs
    subst exs
    have s12 := s1.trans s2
    have ha1 := s12 _ _ ha
    have hl1 := s12 _ _ has
    have hr1 := hra.kt (KT.same s12)
    obtain ⟨bs, hbs, hrb⟩ := hw.s s2
    walk_at "rd"
    refine rd_sfld ?_
    walk_at "rd"
    refine ⟨a, T.c_Disk, dx, _, _, rfl, ha1, T.W_Disk.cl, T.na_rows, dF_rows _ _, ?_⟩
    walk_at "rd"
    refine ⟨a, T.c_Disk, dx, _, _, rfl, ha1, T.W_Disk.cl, T.na_firm, dF_firm _ _, ?_⟩
    walk_at "rd"
    refine ⟨l, _, rfl, SqL.of hl1, fun c nc => ?_⟩
    have e2 : cutV (as.map V.ref) none (some (n : Int)) = (as.take n).map V.ref := by
      unfold cutV
      rw [List.length_map, HT.sIx_none, HT.sIx_nat, Nat.min_eq_left (by omega), List.drop_zero, List.map_take, Nat.sub_zero]
    rw [e2]
    have s3 := same_new (o := .lst ((as.take n).map V.ref)) nc
    walk_at "rd"
    refine rd_izipLT ?_
    walk_at "rd"
    have lb := hrb.1
    have lk := hc.1
    have ld : (rs.drop n).length ≤ 1000 := by rw [List.length_drop]; omega
    refine ⟨wt, t, _, _, rfl, SqL.of (s3 _ _ hbs), SqT.of ((s12.trans s3) _ _ ht), fun D hD => lc_mz (K := K) (a := wt) (b := t) (xs := bs.map V.ref) (ys := ks.map V.int) (by rw [List.length_map, List.length_map, lb, lk])
      (fun i H2 => Same (upd H1 c (.lst ((as.take n).map V.ref))) H2 ∧ ∃ cs, H2 D = some (.lst (cs.map V.ref)) ∧ RAll H2 cs ((cutR (rs.drop n) ks).take i)) ⟨same_new hD, [], upd_same, by rw [List.take_zero]; exact RAll.nil⟩ (fun i H2 hh => ⟨SqL.of (hh.1 _ _ (s3 _ _ hbs)), SqT.of (hh.1 _ _ ((s12.trans s3) _ _ ht))⟩) ?_ ?_⟩
    · rintro i x y tt H2 hx hy ⟨hs, cs, hacc, hrc⟩ htt
      obtain ⟨b, r, rfl, eb, er, hrr⟩ := hrb.get hx
      obtain ⟨k, rfl, ek⟩ := ks_get hy
      obtain ⟨k0, k1⟩ := hc.2 i k r ek er
      have hs3 := s3.trans hs
      have s4 := same_new (o := .tup [V.ref b, V.int k]) htt
      have hDt : D ≠ tt := ne_of_none hacc htt
      refine ⟨tt, _, rfl, SqT.of upd_same, rfl, _, _, rfl, _, _, rfl, rfl, ?_⟩
      refine ⟨rfl, ?_⟩
      refine rd_tyes ?_
      refine rd_yes rfl ?_
      walk_at "rd"
      have hrb4 := hrr.kt (KT.same (hs3.trans s4))
      refine rd_cutA hrb4.1 fun d H3 s5 hd3 => ?_
      have e3 : cutV (r.map V.int) none (some k) = (r.take k.toNat).map V.int := by
        unfold cutV
        obtain ⟨k', rfl⟩ := Int.eq_ofNat_of_zero_le k0
        rw [List.length_map, HT.sIx_none, HT.sIx_nat, Nat.min_eq_left (by omega), List.drop_zero, List.map_take, Nat.sub_zero]
        rfl
      rw [e3] at hd3
      have hrow : RowAt H3 d (r.take k.toNat) := ⟨hd3, fun z hz => hrb4.2 z (List.mem_of_mem_take hz), by have := hrb4.3; rw [List.length_take]; omega⟩
      have hacc3 : H3 D = some (.lst (cs.map V.ref)) := s5 _ _ ((upd_ne hDt).trans hacc)
      have lc := hrc.1
      rw [List.length_take] at lc
      have lcc := cutR_len hc
      refine ⟨_, hacc3, small' (by rw [List.length_map]; omega), fun z o ez => (upd_ne (ne_of_none ez hD)).trans (s5 _ _ (s4 _ _ (hs z o ez))), cs ++ [d], ?_, ?_⟩
      · rw [upd_same, List.map_append]
        rfl
      · rw [take_snoc (cutR_get er ek)]
        have k45 : KT H2 H3 := KT.same (s4.trans s5)
        have k6 : KT H3 (upd H3 D (.lst (cs.map V.ref ++ [V.ref d]))) := (FK.mutL (M := [D]) (by simp) hacc3).2
        exact ((hrc.kt k45).kt k6).app (.one (hrow.kt k6))
    · rintro H2 ⟨hs, cs, hacc, hrc⟩
      have lcc := cutR_len hc
      rw [List.take_of_length_le (by rw [List.length_map]; omega)] at hrc
      have hs3 := s3.trans hs
      walk_at "rd"
      refine ⟨c, D, _, _, rfl, rfl, hs _ _ upd_same, hacc, Nat.le_trans (show _ ≤ 2000 by rw [List.length_map, List.length_map, List.length_take, hrc.1, lcc]; omega) (by decide), fun l' nl' => ?_⟩
      have s6 := same_new (o := .lst ((as.take n).map V.ref ++ cs.map V.ref)) nl'
      have s16 := (s12.trans hs3).trans s6
      have ne1 : a ≠ l' := ne_of_none ((s12.trans hs3) _ _ ha) nl'
      have ha2 := s16 _ _ ha
      have nl0 : H l' = none := (s12.trans hs3).free nl'
      walk_at "rd"
      refine ⟨a, T.c_Disk, dx, _, rfl, ha2, T.W_Disk.cl, T.na_rows, (by show 2 < 1000; decide), ?_⟩
      rw [dF_put]
      dsimp only
      have f7 := (FK.same (M := [a]) s16).trans (FK.ins (o := .ins T.c_Disk dx (dF l' n)) (by simp) ha2)
      walk_at "rd"
      refine rd_sfld ?_
      walk_at "rd"
      refine ⟨a, T.c_Disk, dx, _, _, rfl, upd_same, T.W_Disk.cl, T.na_rows, dF_rows _ _, ?_⟩
      walk_at "rd"
      refine ⟨l', _, rfl, .inl (SqL.of ((upd_ne ne1.symm).trans upd_same)), ?_⟩
      walk_at "rd"
      refine ⟨a, T.c_Disk, dx, _, rfl, upd_same, T.W_Disk.cl, T.na_firm, (by show 2 < 1000; decide), ?_⟩
      have el : (((as.take n).map V.ref ++ cs.map V.ref).length : Nat) = rs.length := by
        rw [List.length_append, List.length_map, List.length_map, List.length_take, hrc.1, lcc, List.length_drop]
        omega
      rw [el, dF_set]
      dsimp only
      have f8 := f7.trans (FK.ins (o := .ins T.c_Disk dx (dF l' rs.length)) (by simp) upd_same)
      walk_at "rd"
      refine q hcb l' (rs.take n ++ cutR (rs.drop n) ks) _ f8 nl0 ne1.symm ⟨⟨dx, upd_same⟩, as.take n ++ cs, ?_, ?_⟩ (by rw [List.length_append, lcc, List.length_take, List.length_drop]; omega)
      · rw [upd_ne ne1.symm, upd_ne ne1.symm, upd_same, List.map_append]
      · have k1 : KT H2 (upd (upd (upd H2 l' (.lst ((as.take n).map V.ref ++ cs.map V.ref))) a (.ins T.c_Disk dx (dF l' n))) a (.ins T.c_Disk dx (dF l' rs.length))) :=
          (KT.same s6).trans ((KT.mut ha2 fun _ z => by cases z).trans (KT.mut upd_same fun _ z => by cases z))
        exact ((hra.take n).kt f8.2).app (hrc.kt k1)
end
end Mw

/-! X3 -/
namespace Mw
open PySem L2
/-- a list (b) or a tuple -/
def AtB (H : Hp) (a : Addr) (xs : List V) (b : Bool) : Prop := H a = some (if b = true then .lst xs else .tup xs)
def Itb (K : PySem.W.Frag) (a : Addr) (b : Bool) : It := if b = true then Itl K a else Itt K a
theorem AtB.s {H H' : Hp} {a : Addr} {xs : List V} {b : Bool} (h : AtB H a xs b) (s : Same H H') : AtB H' a xs b := s _ _ h
theorem rd_iseqV {K : PySem.W.Frag} {i : Nat} {σ : L2.St} {H : Hp} {R : It → Hp → Prop} {a : Addr} {b : Bool} {xs : List V} (e : σ[i]? = some (some (.ref a))) (h1 : AtB H a xs b) (h2 : R (Itb K a b) H) : iSeq K (tVar i) σ H R := by
  refine ⟨.ref a, e, a, rfl, ?_⟩
  cases b with
  | true => exact .inl ⟨⟨xs, SqL.of h1⟩, h2⟩
  | false => exact .inr ⟨⟨xs, SqT.of h1⟩, h2⟩
theorem lc_b {K : PySem.W.Frag} {a : Addr} {b : Bool} {xs : List V} {g : TG} {tt : TT} {te : TE} {vs : List Nat} {σ : L2.St} {H1 : Hp} {D : Addr} {Qd : Hp → Prop} (Pv : Nat → Hp → Prop) (h0 : Pv 0 (upd H1 D (.lst []))) (hl : ∀ i H, i ≤ xs.length → Pv i H → AtB H a xs b)
    (hs : ∀ i x H, xs[i]? = some x → Pv i H → g x (wipe σ vs) H fun σ2 H2 => wipe σ2 vs = wipe σ vs ∧ tt σ2 H2 fun b H3 =>
      if b = true then te σ2 H3 fun y H4 => ∃ acc, H4 D = some (.lst acc) ∧ acc.length < sizeLine ∧ Pv (i + 1) (upd H4 D (.lst (acc ++ [y]))) else Pv (i + 1) H3) (hd : ∀ H, Pv xs.length H → Qd H) :
    ∃ W : Nat → Nat → Hp → Prop, (∃ m, W 0 m (upd H1 D (.lst []))) ∧ ∀ i m H, W i m H →
      ((Itb K a b).stop i H ∧ Qd H) ∨ ((Itb K a b).go i H ∧ ∃ Nx : Hp → Prop, (∀ H', Nx H' → ∃ m', m' < m ∧ W (i + 1) m' H') ∧ ∀ x H', (Itb K a b).yld i H x H' → g x (wipe σ vs) H' fun σ2 H2 => wipe σ2 vs = wipe σ vs ∧ tt σ2 H2 fun b H3 =>
        if b = true then te σ2 H3 fun y H4 => ∃ acc, H4 D = some (.lst acc) ∧ acc.length < sizeLine ∧ Nx (upd H4 D (.lst (acc ++ [y]))) else Nx H3) := by
  cases b with
  | true => exact lc_list (K := K) (a := a) (xs := xs) Pv h0 (fun i H k p => SqL.of (hl i H k p)) hs hd
  | false => exact lc_tup (K := K) (a := a) (xs := xs) Pv h0 (fun i H k p => SqT.of (hl i H k p)) hs hd
theorem for_b {K : PySem.W.Frag} {a : Addr} {b : Bool} {xs : List V} {g : TG} {tb : TS} {D : Ends} {σ : L2.St} {H : Hp} (Pv : Nat → L2.St → Hp → Prop) (h0 : Pv 0 σ H) (hl : ∀ i σ H, i ≤ xs.length → Pv i σ H → AtB H a xs b)
    (hs : ∀ i x σ H, xs[i]? = some x → Pv i σ H → g x σ H fun σ2 H2 => tb { D with nx := Pv (i + 1), ct := Pv (i + 1), bk := D.nx } σ2 H2) (hd : ∀ σ H, Pv xs.length σ H → D.nx σ H) :
    ∃ W : Nat → Nat → L2.St → Hp → Prop, (∃ m, W 0 m σ H) ∧ ∀ i m σ H, W i m σ H →
      ((Itb K a b).stop i H ∧ D.nx σ H) ∨ ((Itb K a b).go i H ∧ ∃ N : L2.St → Hp → Prop, (∀ σ' H', N σ' H' → ∃ m', m' < m ∧ W (i + 1) m' σ' H') ∧ ∀ x H', (Itb K a b).yld i H x H' → g x σ H' fun σ2 H2 => tb { D with nx := N, ct := N, bk := D.nx } σ2 H2) := by
  cases b with
  | true => exact for_list (K := K) (a := a) (xs := xs) Pv h0 (fun i σ H k p => SqL.of (hl i σ H k p)) hs hd
  | false => exact for_tup (K := K) (a := a) (xs := xs) Pv h0 (fun i σ H k p => SqT.of (hl i σ H k p)) hs hd
theorem dt_isLT {K : PySem.W.Frag} {CP : Addr → Prop} {M : List Addr} {H : Hp} (W : ∀ C, CP C → WebTy K C) {d : PyData} {v : V} {t : Addr} {Q : VK} (h : Dt CP M H d v) (ht : H t = some (.tup [.ty "list", .ty "tuple"])) (q : Q (.bl (isL d || isT d)) H) : rIsiT K [v, .ref t] H Q := by
  obtain ⟨c, ty, _, _, kT, kL, _⟩ := h.ty W
  refine ⟨v, t, _, c, [.type "list", .type "tuple"], _, rfl, ht, .cons (.ty _) (.cons (.ty _) .nil), ty, ?_, q⟩
  unfold PySem.W.kitAny
  rw [kL]
  cases isL d with
  | true => rfl
  | false =>
    show PySem.W.kitAny K c [.type "tuple"] = _
    unfold PySem.W.kitAny
    rw [kT]
    cases isT d <;> rfl
theorem opD_one {row : List Int} {D : PyData} (h : OpD row D) : (∃ d, D = .tuple [d]) ∨ D = .tuple [] := by
  rcases h with ⟨_, d, _, rfl⟩ | ⟨_, rfl⟩
  · exact .inl ⟨d, rfl⟩
  · exact .inr rfl
/-- whether a thing is a list or a tuple of rows -/
def blkB : PyData → Bool
  | .list ds => (ds.map isRowD).all id
  | .tuple ds => (ds.map isRowD).all id
  | _ => false
/-- the items of a list or a tuple -/
def itD : PyData → List PyData
  | .list ds => ds
  | .tuple ds => ds
  | _ => []
theorem dt_seq {CP : Addr → Prop} {M : List Addr} {H : Hp} {d : PyData} {v : V} (h : Dt CP M H d v) (g : (isL d || isT d) = true) : ∃ a b xs, v = .ref a ∧ AtB H a xs b ∧ DtAll CP M H (itD d) xs ∧ blkB d = ((itD d).map isRowD).all id := by
  cases d with
  | list ds =>
    obtain ⟨a, xs, rfl, _, ha, hx⟩ := dt_lst' h
    exact ⟨a, true, xs, rfl, ha, hx, rfl⟩
  | tuple ds =>
    obtain ⟨a, xs, rfl, ha, hx⟩ := dt_tup' h
    exact ⟨a, false, xs, rfl, ha, hx, rfl⟩
  | _ => cases g
def spKept (CP : Addr → Prop) (CN : Addr) : Sp := fun vs H Q E => ∃ M d x, vs = [x] ∧ Dt CP M H d x ∧ (itD d).length ≤ 1000 ∧ (∀ e ∈ itD d, lenD e ≤ 900000) ∧ (blkB d = true → ∀ v H', Same H H' → Q v H') ∧ (blkB d = false → ∀ H', Same H H' → E (.ref CN) none H')
section
variable {P : Program} {w : World} {K : PySem.W.Frag} {mg : Str → Option Value} {base : Heap}
local macro_rules | `(tactic| walk_at "rd") => `(tactic| (repeat (first
  | ((with_reducible refine' rd_var ?h0 ?_); (case h0 => rfl))
  | with_reducible refine rd_c ?_
  | with_reducible refine rd_op ?_
  | with_reducible refine rd_nil ?_
  | with_reducible refine rd_cons ?_
  | with_reducible refine rd_tup ?_
  | with_reducible refine rd_lst ?_
  | with_reducible refine rd_ifs ?_
  | with_reducible refine rd_seq ?_
  | with_reducible refine rd_next ?_
  | with_reducible refine rd_ret ?_
  | with_reducible refine rd_asg ?_
  | ((with_reducible refine' rd_gset ?hs ?_); (case hs => ((simp only [L2.start, List.map_cons, List.map_nil, List.length_cons, List.length_nil, List.cons_append, List.nil_append, List.set_cons_zero, List.set_cons_succ, Nat.reduceAdd, Nat.reduceSub, Nat.zero_add, List.reduceReplicate]); rfl)))
  | with_reducible refine rd_drop ?_
  | with_reducible refine rd_test ?_
  | with_reducible refine rd_B ?_
  | with_reducible refine rd_bl ?_
  | with_reducible refine rd_blP ?_
  | with_reducible refine rd_andV ?_
  | with_reducible refine rd_orV ?_
  | with_reducible refine rd_notV ?_
  | with_reducible refine rd_and ?_
  | with_reducible refine rd_or ?_
  | with_reducible refine rd_not ?_
  | with_reducible refine rd_chain ?_
  | with_reducible refine rd_dput ?_
  | with_reducible refine rd_dget ?_
  | with_reducible refine rd_cb ?_
  | with_reducible refine rd_call ?_
  | with_reducible refine rd_un ?_
  | with_reducible refine rd_sl ?_
  | with_reducible refine rd_nopart ?_
  | with_reducible refine rd_part ?_
  | with_reducible refine rd_intP ?_
  | with_reducible refine rd_rU ?_
  | with_reducible refine rd_fld ?_
  | with_reducible refine rd_eqI ?_
  | with_reducible refine rd_neI ?_
  | with_reducible refine rd_mko ?_
  | with_reducible refine rd_bm ?_
  | with_reducible refine rd_gsub ?_
  | with_reducible refine rd_i0 ?_)))
theorem ok_drop (T : Tx K mg) (B : Bk K mg T) : FnOk P w K mg base (L2.CX P w) 4 B.Disk_drop.f B.Disk_drop.fd ["self", "number"] (spDrop T.CP T.c_Disk T.c_NoNumber) := by
  have G_is_number_below := ok_is_number_below (P := P) (w := w) (base := base) T B
  have G_NoNumber_init := ok_number_init (P := P) (w := w) (base := base) T B
  refine B.Disk_drop.F.okX sc_Disk_drop (fun vs H Q E h => ?_) (fun cdv A outer s H vs Q E hr h => ?_)
  · obtain ⟨a, l, n, rs, M, d, x, rfl, _⟩ := h
    rfl
  · obtain ⟨a, l, n, rs, M, d, x, rfl, hd, hdx, q, q0⟩ := h
    have nal := hd.ne
    obtain ⟨⟨dx, ha⟩, as, has, hra⟩ := id hd
    have la := hra.1
    refine ⟨_, (pss_cons (ps_if (pt_not (pt_val (pe_call G_is_number_below (hr.mono (by omega)) rfl B.is_number_below.m B.is_number_below.F.kp B.is_number_below.b .nil pass0 (pa_cons (pe_op op_add (pe_callB call_len_seq (by rfl) T.b_len (by decide +kernel) (pa_cons (pe_fld (pv 0) rfl) pa_nil)) pe_int) (pa_cons (pv 1) pa_nil))))) (pss_one (ps_raise rfl (takes_of rfl rfl rfl rfl) (pmk_pass T.x_NoNumber B.NoNumber_init.a B.NoNumber_init.t G_NoNumber_init (hr.mono (by omega)) B.NoNumber_init.b pass0 rfl T.g_NoNumber))) pss_nil)
      (pss_cons (ps_fld (pv 0) (pe_slice sl_list (pe_fld (pv 0) rfl) po_none (po_some (pv 1))) rfl)
      (pss_one (ps_fld (pv 0) (pe_callB (call_min2 rfl) (by rfl) T.b_min (by decide +kernel) (pa_cons (pe_fld (pv 0) rfl) (pa_cons (pv 1) pa_nil))) rfl)))), ?_⟩
    walk_at "rd"
    refine ⟨a, T.c_Disk, dx, _, _, rfl, ha, T.W_Disk.cl, T.na_rows, dF_rows _ _, ?_⟩
    walk_at "rd"
    refine ⟨l, _, rfl, .inl (SqL.of has), ?_⟩
    walk_at "rd"
    refine ⟨M, _, d, x, rfl, hdx, ?_⟩
    rw [List.length_map, la]
    walk_at "rd"
    refine rd_ite (fun hb => ?_) (fun hb => ?_)
    · intro e he
      exact ⟨⟨e, rfl, rfl, rfl⟩, q0 (by simpa using hb) _ (Same.refl H)⟩
    have hnb : isNb ((rs.length : Nat) + 1) d = true := by simpa using hb
    obtain ⟨k, rfl, hk⟩ : ∃ k : Nat, d = .int (k : Int) ∧ k ≤ rs.length := by
      cases d with
      | int i =>
        have h3 : (decide (0 ≤ i) && decide (i < ((rs.length : Nat) : Int) + 1)) = true := hnb
        simp only [Bool.and_eq_true, decide_eq_true_eq] at h3
        exact ⟨i.toNat, by rw [Int.toNat_of_nonneg h3.1], by omega⟩
      | _ => cases hnb
    cases dt_int' hdx
    walk_at "rd"
    refine rd_sfld ?_
    walk_at "rd"
    refine ⟨a, T.c_Disk, dx, _, _, rfl, ha, T.W_Disk.cl, T.na_rows, dF_rows _ _, ?_⟩
    walk_at "rd"
    refine ⟨l, _, rfl, SqL.of has, fun c nc => ?_⟩
    have e2 : cutV (as.map V.ref) none (some (k : Int)) = (as.take k).map V.ref := by
      unfold cutV
      rw [List.length_map, HT.sIx_none, HT.sIx_nat, Nat.min_eq_left (by omega), List.drop_zero, List.map_take, Nat.sub_zero]
    rw [e2]
    have s1 := same_new (o := .lst ((as.take k).map V.ref)) nc
    have nac : a ≠ c := ne_of_none ha nc
    walk_at "rd"
    refine ⟨a, T.c_Disk, dx, _, rfl, s1 _ _ ha, T.W_Disk.cl, T.na_rows, (by show 2 < 1000; decide), ?_⟩
    rw [dF_put]
    dsimp only
    have f2 := (FK.same (M := [a]) s1).trans (FK.ins (o := .ins T.c_Disk dx (dF c n)) (by simp) (s1 _ _ ha))
    walk_at "rd"
    refine rd_sfld ?_
    walk_at "rd"
    refine ⟨a, T.c_Disk, dx, _, _, rfl, upd_same, T.W_Disk.cl, T.na_firm, dF_firm _ _, ?_⟩
    walk_at "rd"
    refine ⟨_, _, rfl, ?_⟩
    have e3 : (if (k : Int) < (n : Int) then (k : Int) else (n : Int)) = ((min n k : Nat) : Int) := by
      split <;> omega
    rw [e3]
    walk_at "rd"
    refine ⟨a, T.c_Disk, dx, _, rfl, upd_same, T.W_Disk.cl, T.na_firm, (by show 2 < 1000; decide), ?_⟩
    rw [dF_set]
    dsimp only
    have f3 := f2.trans (FK.ins (o := .ins T.c_Disk dx (dF c (min n k))) (by simp) upd_same)
    walk_at "rd"
    refine q k c _ rfl hk f3 nc nac.symm ⟨⟨dx, upd_same⟩, as.take k, ?_, (hra.take k).kt f3.2⟩
    rw [upd_ne nac.symm, upd_ne nac.symm, upd_same]
theorem ok_kept (T : Tx K mg) (B : Bk K mg T) : FnOk P w K mg base (L2.CX P w) 49 B.kept_parcels.f B.kept_parcels.fd ["blocks"] (spKept T.CP T.c_NoBlocks) := by
  have G_is_row := ok_is_row (P := P) (w := w) (base := base) T B
  have G_unsealed := ok_unsealed (P := P) (w := w) (base := base) T B
  have G_NoBlocks_init := ok_blocks_init (P := P) (w := w) (base := base) T B
  refine B.kept_parcels.F.okX sc_kept_parcels (fun vs H Q E h => ?_) (fun cdv A outer s H vs Q E hr h => ?_)
  · obtain ⟨M, d, x, rfl, _⟩ := h
    rfl
  · obtain ⟨M, d, x, rfl, hd, hl, hle, q, q0⟩ := h
    refine ⟨_, (pss_cons (ps_if (PW.pt (pw_or (pt_not (pt_val (pe_callB call_isiT (by rfl) T.b_isinstance (by decide +kernel) (pa_cons (pv 0) (pa_cons (pe_tup (pa_cons (pe_bltn (v := .ty "list") (by rfl) T.b_list (by decide +kernel) rfl) (pa_cons (pe_bltn (v := .ty "tuple") (by rfl) T.b_tuple (by decide +kernel) rfl) pa_nil))) pa_nil))))) (pw_or1 (pt_not (pt_val (pe_callB (cr_all rfl) (by rfl) T.b_all (by decide +kernel) (pa_cons (pe_lc (own := [("block", 1)]) (g := gName 1) rfl sc_kept_parcels.nd (pi_seq (pv 0)) (blkOk_by (own := [("block", 1)]) (N := ["blocks", "block", "parcels", "told"]) (sc := defScope s_kept_parcels) (by decide +kernel)) (fun _ _ _ _ _ => pg_name (i := 1) sc_kept_parcels.nd rfl (Or.inl rfl)) (fun _ _ _ _ _ => pts_nil) (fun _ _ _ _ _ => (pe_call G_is_row (hr.mono (by omega)) rfl B.is_row.m B.is_row.F.kp B.is_row.b .nil pass0 (pa_cons (pv 1) pa_nil)))) pa_nil))))))) (pss_one (ps_raise rfl (takes_of rfl rfl rfl rfl) (pmk_pass T.x_NoBlocks B.NoBlocks_init.a B.NoBlocks_init.t G_NoBlocks_init (hr.mono (by omega)) B.NoBlocks_init.b pass0 rfl T.g_NoBlocks))) pss_nil)
      (pss_cons (ps_set (i := 2) sc_kept_parcels.nd rfl (Or.inl rfl) (pe_lst pa_nil))
      (pss_cons (ps_for (passes_of rfl) rfl (pi_seq (pv 0)) (pg_name (i := 1) sc_kept_parcels.nd rfl (Or.inl rfl)) (pss_cons (ps_set (i := 3) sc_kept_parcels.nd rfl (Or.inl rfl) (pe_call G_unsealed (hr.mono (by omega)) rfl B.unsealed.m B.unsealed.F.kp B.unsealed.b .nil pass0 (pa_cons (pv 1) pa_nil)))
      (pss_cons (ps_if (pt_cmpR op_eq (pe_callB call_len_seq (by rfl) T.b_len (by decide +kernel) (pa_cons (pv 3) pa_nil)) pe_int (nomark _)) (pss_one ps_break) pss_nil)
      (pss_one (ps_expr (pe_bm PySem.F.plainAttrs_list PySem.F.slot_list_extend PySem.F.type_list_extend mt_extT (pv 2) (pa_cons (pv 3) pa_nil)))))))
      (pss_one (ps_ret (pv 2)))))), ?_⟩
    walk_at "rd"
    refine rd_disp rfl fun tp ntp => ?_
    have s1 := same_new (o := .tup [.ty "list", .ty "tuple"]) ntp
    walk_at "rd"
    refine dt_isLT T.W (hd.s s1) upd_same ?_
    walk_at "rd"
    refine rd_ite (fun hb => ?_) (fun hb => ?_)
    · refine rd_yes rfl ?_
      intro e he
      refine ⟨⟨e, rfl, rfl, rfl⟩, q0 ?_ _ s1⟩
      have hb' : (isL d || isT d) = false := by simpa using hb
      cases d <;> first | rfl | cases hb'
    · have hb' : (isL d || isT d) = true := by
        revert hb
        cases (isL d || isT d) <;> intro z <;> first | rfl | cases z
      obtain ⟨a, b, xs, rfl, ha, hx, hbl⟩ := dt_seq hd hb'
      have lx := hx.len
      walk_at "rd"
      refine rd_iseqV rfl (ha.s s1) (fun D hD => lc_b (K := K) (a := a) (b := b) (xs := xs) (fun i H1 => Same (upd H tp (.tup [.ty "list", .ty "tuple"])) H1 ∧ H1 D = some (.lst ((((itD d).take i).map isRowD).map V.bl))) ⟨same_new hD, upd_same⟩ (fun i H1 _ hh => (ha.s s1).s hh.1) ?_ ?_)
      · rintro i y H1 hi ⟨hs, hacc⟩
        obtain ⟨d1, ed, hd1⟩ := hx.get' hi
        refine ⟨rfl, ?_⟩
        refine rd_tyes ?_
        refine rd_yes rfl ?_
        walk_at "rd"
        refine ⟨M, d1, y, rfl, hd1.s (s1.trans hs), hle d1 (List.mem_of_getElem? ed), fun H2 s2 => ?_⟩
        refine ⟨_, s2 _ _ hacc, small' (by rw [List.length_map, List.length_map, List.length_take]; omega), fun z o ez => (upd_ne (ne_of_none ez hD)).trans (s2 _ _ (hs z o ez)), ?_⟩
        rw [upd_same, take_snoc ed, List.map_append, List.map_append]
        rfl
      · rintro H1 ⟨hs, hacc⟩
        rw [← lx, List.take_length] at hacc
        refine ⟨D, _, rfl, SqL.of hacc, ?_⟩
        have s12 := s1.trans hs
        walk_at "rd"
        refine rd_ite (fun hc => ?_) (fun hc => ?_)
        · intro e he
          exact ⟨⟨e, rfl, rfl, rfl⟩, q0 (by rw [hbl]; simpa using hc) _ s12⟩
        · have hall : ((itD d).map isRowD).all id = true := by simpa using hc
          have hbt : blkB d = true := by rw [hbl, hall]
          walk_at "rd"
          refine rd_disp rfl fun p np => ?_
          have s3 := s12.trans (same_new (o := .lst []) np)
          walk_at "rd"
          refine rd_iseqV rfl (ha.s s3) (for_b (K := K) (a := a) (b := b) (xs := xs) (fun i σ H2 => Same H1 H2 ∧ (∃ zs, H2 p = some (.lst zs) ∧ zs.length ≤ i) ∧ ∃ u2 u3 : Option V, σ = [some (.ref a), u2, some (.ref p), u3])
            ⟨same_new np, ⟨[], upd_same, Nat.le_refl _⟩, _, _, rfl⟩ (fun i σ H2 _ hh => (ha.s s12).s hh.1) ?_ ?_)
          · rintro i y σ H2 hi ⟨hs2, ⟨zs, hp, hz⟩, u2, u3, rfl⟩
            obtain ⟨d1, ed, hd1⟩ := hx.get' hi
            have hi2 : i < xs.length := (List.getElem?_eq_some_iff.mp hi).1
            have hrow : isRowD d1 = true := by
              have := List.all_eq_true.mp hall _ (List.mem_map.mpr ⟨d1, List.mem_of_getElem? ed, rfl⟩)
              simpa using this
            walk_at "rd"
            refine ⟨M, d1, y, rfl, hd1.s (s12.trans hs2), hle d1 (List.mem_of_getElem? ed), fun z => (by rw [hrow] at z; cases z), fun row e hb D2 v H3 hO s4 hv => ?_⟩
            have hp3 := s4 _ _ hp
            rcases opD_one hO with ⟨d2, rfl⟩ | rfl
            · obtain ⟨t, ws, rfl, ht, hw⟩ := dt_tup' hv
              have hlz := hw.len
              have hl1 : ws.length = 1 := by rw [← hlz]; rfl
              walk_at "rd"
              refine ⟨t, _, rfl, .inr (SqT.of ht), ?_⟩
              walk_at "rd"
              refine rd_no (by rw [hl1]; rfl) ?_
              walk_at "rd"
              refine ⟨.inl ⟨rfl, _, SqL.of hp3⟩, ?_⟩
              walk_at "rd"
              refine ⟨p, t, zs, ws, rfl, rfl, hp3, ht, small (by omega), ?_⟩
              walk_at "rd"
              refine ⟨fun z o ez => ?_, ⟨zs ++ ws, upd_same, by rw [List.length_append]; omega⟩, _, _, rfl⟩
              have nz : z ≠ p := ne_of_none ez np
              exact (upd_ne nz).trans (s4 _ _ (hs2 z o ez))
            · obtain ⟨t, ws, rfl, ht, hw⟩ := dt_tup' hv
              have hlz := hw.len
              walk_at "rd"
              refine ⟨t, _, rfl, .inr (SqT.of ht), ?_⟩
              walk_at "rd"
              refine rd_yes (by rw [← hlz]; rfl) ?_
              walk_at "rd"
              refine rd_break ?_
              walk_at "rd"
              exact q hbt _ H3 ((s12.trans hs2).trans s4)
          · rintro σ H2 ⟨hs2, ⟨zs, hp, hz⟩, u2, u3, rfl⟩
            walk_at "rd"
            exact q hbt _ H2 (s12.trans hs2)
end
end Mw

/-! X4 -/
namespace Mw
open PySem L2
abbrev oF (g : Int) (l : Addr) : List (Str × V) := [(("let_go" : Str), .int g), (("things" : Str), .ref l)]
theorem oF_go (g : Int) (l : Addr) : (oF g l).lookup ("let_go" : Str) = some (.int g) := rfl
theorem oF_th (g : Int) (l : Addr) : (oF g l).lookup ("things" : Str) = some (.ref l) := rfl
theorem oF_put (g g' : Int) (l : Addr) : putF ("let_go" : Str) (.int g') (oF g l) = oF g' l := rfl
theorem oF_set (g : Int) (l l' : Addr) : putF ("things" : Str) (.ref l') (oF g l) = oF g l' := rfl
/-- an end at which things are put, at a; its list at l -/
def OutAt (C : Addr) (H : Hp) (a l : Addr) (g : Int) (xs : List V) : Prop := (∃ dx, H a = some (.ins C dx (oF g l))) ∧ H l = some (.lst xs)
theorem OutAt.ne {C a l : Addr} {H : Hp} {g : Int} {xs : List V} (h : OutAt C H a l g xs) : a ≠ l := by
  obtain ⟨⟨dx, h1⟩, h2⟩ := h
  exact ne_of h1 h2 (by intro z; cases z)
theorem OutAt.same {C a l : Addr} {H H' : Hp} {g : Int} {xs : List V} (h : OutAt C H a l g xs) (s : Same H H') : OutAt C H' a l g xs := by
  obtain ⟨⟨dx, h1⟩, h2⟩ := h
  exact ⟨⟨dx, s _ _ h1⟩, s _ _ h2⟩
theorem OutAt.fr {C a l : Addr} {H H' : Hp} {g : Int} {xs : List V} {M : List Addr} (h : OutAt C H a l g xs) (s : Fr M H H') (n1 : a ∉ M) (n2 : l ∉ M) : OutAt C H' a l g xs := by
  obtain ⟨⟨dx, h1⟩, h2⟩ := h
  exact ⟨⟨dx, s _ _ n1 h1⟩, s _ _ n2 h2⟩
def spOutInit (C : Addr) : Sp := fun vs H Q _ => ∃ a dx, vs = [.ref a] ∧ H a = some (.ins C dx []) ∧ ∀ l H', Fr [a] H H' → H l = none → OutAt C H' a l 0 [] → Q .non H'
def spMany (C : Addr) : Sp := fun vs H Q _ => ∃ a l g xs, vs = [.ref a] ∧ OutAt C H a l g xs ∧ Q (.int (g + (xs.length : Nat))) H
def spPut (C : Addr) : Sp := fun vs H Q _ => ∃ a l g xs y, vs = [.ref a, y] ∧ OutAt C H a l g xs ∧ xs.length < 1000 ∧ ∀ H', Fr [l] H H' → OutAt C H' a l g (xs ++ [y]) → Q (.int (g + (xs.length : Nat))) H'
def spKnown (CP : Addr → Prop) (C CN : Addr) : Sp := fun vs H Q E => ∃ a l g xs M d x, vs = [.ref a, x] ∧ OutAt C H a l g xs ∧ Dt CP M H d x ∧ xs.length ≤ 1000 ∧
  (∀ (n : Int) (l' : Addr) (u : Nat) (H' : Hp), d = .int n → 0 ≤ n → n ≤ g + (xs.length : Nat) → (u : Int) = (if 0 < n - g then n - g else 0) → Fr [a] H H' → H l' = none → OutAt C H' a l' (g + u) (xs.drop u) → Q (.int u) H') ∧
  ((isNum d = false ∨ ∃ n, d = .int n ∧ g + (xs.length : Nat) < n) → ∀ H', Same H H' → E (.ref CN) none H')
def spOState (C : Addr) : Sp := fun vs H Q _ => ∃ a l g xs, vs = [.ref a] ∧ OutAt C H a l g xs ∧ ∀ t u H', Same H H' → H t = none → H' t = some (.tup [.int g, .ref u]) → H' u = some (.tup xs) → H u = none → Q (.ref t) H'
theorem rd_sfldaug {K : PySem.W.Frag} {ta tv : TE} {rd : V → V → Hp → VK → Prop} {f : Str} {D : Ends} {σ : L2.St} {H : Hp} (h : ta σ H fun x H1 => ∃ a C dx fs v, x = .ref a ∧ H1 a = some (.ins C dx fs) ∧ Cls K C ∧ NoAttr K C f ∧ fs.lookup f = some v ∧
  tv σ H1 fun y H2 => rd v y H2 fun z H3 => ∃ dx' fs', H3 a = some (.ins C dx' fs') ∧ fs'.length < 1000 ∧ D.nx σ (upd H3 a (.ins C dx' (putF f z fs')))) : sFldAug K ta tv rd f D σ H := h
section
variable {P : Program} {w : World} {K : PySem.W.Frag} {mg : Str → Option Value} {base : Heap}
local macro_rules | `(tactic| walk_at "rd") => `(tactic| (repeat (first
  | ((with_reducible refine' rd_var ?h0 ?_); (case h0 => rfl))
  | with_reducible refine rd_c ?_
  | with_reducible refine rd_op ?_
  | with_reducible refine rd_nil ?_
  | with_reducible refine rd_cons ?_
  | with_reducible refine rd_tup ?_
  | with_reducible refine rd_lst ?_
  | with_reducible refine rd_ifs ?_
  | with_reducible refine rd_seq ?_
  | with_reducible refine rd_next ?_
  | with_reducible refine rd_ret ?_
  | with_reducible refine rd_asg ?_
  | ((with_reducible refine' rd_gset ?hs ?_); (case hs => ((simp only [L2.start, List.map_cons, List.map_nil, List.length_cons, List.length_nil, List.cons_append, List.nil_append, List.set_cons_zero, List.set_cons_succ, Nat.reduceAdd, Nat.reduceSub, Nat.zero_add, List.reduceReplicate]); rfl)))
  | with_reducible refine rd_drop ?_
  | with_reducible refine rd_test ?_
  | with_reducible refine rd_B ?_
  | with_reducible refine rd_bl ?_
  | with_reducible refine rd_blP ?_
  | with_reducible refine rd_andV ?_
  | with_reducible refine rd_orV ?_
  | with_reducible refine rd_notV ?_
  | with_reducible refine rd_and ?_
  | with_reducible refine rd_or ?_
  | with_reducible refine rd_not ?_
  | with_reducible refine rd_chain ?_
  | with_reducible refine rd_dput ?_
  | with_reducible refine rd_dget ?_
  | with_reducible refine rd_cb ?_
  | with_reducible refine rd_call ?_
  | with_reducible refine rd_un ?_
  | with_reducible refine rd_sl ?_
  | with_reducible refine rd_nopart ?_
  | with_reducible refine rd_part ?_
  | with_reducible refine rd_intP ?_
  | with_reducible refine rd_rU ?_
  | with_reducible refine rd_fld ?_
  | with_reducible refine rd_eqI ?_
  | with_reducible refine rd_neI ?_
  | with_reducible refine rd_mko ?_
  | with_reducible refine rd_bm ?_
  | with_reducible refine rd_gsub ?_
  | with_reducible refine rd_i0 ?_)))
theorem ok_out_init (T : Tx K mg) (B : Bk K mg T) : FnOk P w K mg base CX0 1 B.Outgoing_init.f B.Outgoing_init.fd ["self"] (spOutInit T.c_Outgoing) := by
  refine B.Outgoing_init.F.ok sc_Outgoing_init (fun vs H Q E h => ?_) (fun cdv A outer s H vs Q E hr h => ?_)
  · obtain ⟨a, dx, rfl, _⟩ := h
    rfl
  · obtain ⟨a, dx, rfl, ha, q⟩ := h
    refine ⟨_, (pss_cons (ps_fld (pv 0) pe_int rfl)
      (pss_one (ps_fld (pv 0) (pe_lst pa_nil) rfl))), ?_⟩
    walk_at "rd"
    refine rd_sfld ?_
    walk_at "rd"
    refine ⟨a, T.c_Outgoing, dx, _, rfl, ha, T.W_Outgoing.cl, T.na_let_go, (by show 0 < 1000; decide), ?_⟩
    dsimp only
    walk_at "rd"
    refine rd_sfld ?_
    walk_at "rd"
    refine rd_disp rfl fun l nl => ?_
    have nal : a ≠ l := ne_of_none upd_same nl
    walk_at "rd"
    refine ⟨a, T.c_Outgoing, dx, _, rfl, (upd_ne nal).trans upd_same, T.W_Outgoing.cl, T.na_things, (by show 1 < 1000; decide), ?_⟩
    have nl0 : H l = none := by
      rw [upd_ne nal.symm] at nl
      exact nl
    refine q l _ (fun b o n e => ?_) nl0 ⟨⟨dx, upd_same⟩, ?_⟩
    · have nb : b ≠ a := by simpa using n
      rw [upd_ne nb, upd_ne (ne_of_none e nl0), upd_ne nb]
      exact e
    · rw [upd_ne nal.symm]
      exact upd_same
theorem ok_many_put (T : Tx K mg) (B : Bk K mg T) : FnOk P w K mg base CX0 1 B.Outgoing_many_put.f B.Outgoing_many_put.fd ["self"] (spMany T.c_Outgoing) := by
  refine B.Outgoing_many_put.F.ok sc_Outgoing_many_put (fun vs H Q E h => ?_) (fun cdv A outer s H vs Q E hr h => ?_)
  · obtain ⟨a, l, g, xs, rfl, _⟩ := h
    rfl
  · obtain ⟨a, l, g, xs, rfl, ⟨⟨dx, ha⟩, hl⟩, q⟩ := h
    refine ⟨_, (pss_one (ps_ret (pe_op op_add (pe_fld (pv 0) rfl) (pe_callB call_len_seq (by rfl) T.b_len (by decide +kernel) (pa_cons (pe_fld (pv 0) rfl) pa_nil))))), ?_⟩
    walk_at "rd"
    refine ⟨a, T.c_Outgoing, dx, _, _, rfl, ha, T.W_Outgoing.cl, T.na_let_go, oF_go _ _, ?_⟩
    walk_at "rd"
    refine ⟨a, T.c_Outgoing, dx, _, _, rfl, ha, T.W_Outgoing.cl, T.na_things, oF_th _ _, ?_⟩
    walk_at "rd"
    refine ⟨l, xs, rfl, .inl (SqL.of hl), ?_⟩
    walk_at "rd"
    exact q
theorem ok_put (T : Tx K mg) (B : Bk K mg T) : FnOk P w K mg base CX0 2 B.Outgoing_put.f B.Outgoing_put.fd ["self", "thing"] (spPut T.c_Outgoing) := by
  have G_Outgoing_many_put := ok_many_put (P := P) (w := w) (base := base) T B
  refine B.Outgoing_put.F.ok sc_Outgoing_put (fun vs H Q E h => ?_) (fun cdv A outer s H vs Q E hr h => ?_)
  · obtain ⟨a, l, g, xs, y, rfl, _⟩ := h
    rfl
  · obtain ⟨a, l, g, xs, y, rfl, ho, hx, q⟩ := h
    obtain ⟨⟨dx, ha⟩, hl⟩ := id ho
    have nal := ho.ne
    refine ⟨_, (pss_cons (ps_expr (pe_bm PySem.F.plainAttrs_list PySem.F.slot_list_append PySem.F.type_list_append mt_append (pe_fld (pv 0) rfl) (pa_cons (pv 1) pa_nil)))
      (pss_one (ps_ret (pe_op op_sub (pe_meth0 (pv 0) T.W_Outgoing.cl ⟨B.Outgoing_many_put.a, B.Outgoing_many_put.i, B.Outgoing_many_put.F.kp⟩ G_Outgoing_many_put (hr.mono (by decide)) B.Outgoing_many_put.b .nil pass0) pe_int)))), ?_⟩
    walk_at "rd"
    refine ⟨a, T.c_Outgoing, dx, _, _, rfl, ha, T.W_Outgoing.cl, T.na_things, oF_th _ _, ?_⟩
    refine ⟨.inl ⟨rfl, _, SqL.of hl⟩, ?_⟩
    walk_at "rd"
    refine rd_append hl (small1000 (by omega)) ?_
    have ho2 : OutAt T.c_Outgoing (upd H l (.lst (xs ++ [y]))) a l g (xs ++ [y]) := ⟨⟨dx, (upd_ne nal).trans ha⟩, upd_same⟩
    walk_at "rd"
    refine rd_meth ?_
    walk_at "rd"
    refine ⟨a, dx, _, rfl, (upd_ne nal).trans ha, rfl, ?_⟩
    walk_at "rd"
    refine ⟨a, l, g, _, rfl, ho2, ?_⟩
    walk_at "rd"
    have e : g + ((xs ++ [y]).length : Nat) - 1 = g + (xs.length : Nat) := by
      rw [List.length_append]
      simp
      omega
    rw [e]
    exact q _ Fr.mut ho2
theorem ok_known (T : Tx K mg) (B : Bk K mg T) : FnOk P w K mg base (L2.CX P w) 3 B.Outgoing_known.f B.Outgoing_known.fd ["self", "number"] (spKnown T.CP T.c_Outgoing T.c_NoNumber) := by
  have G_is_number := ok_is_number (P := P) (w := w) (base := base) T B
  have G_Outgoing_many_put := ok_many_put (P := P) (w := w) (base := base) T B
  have G_NoNumber_init := ok_number_init (P := P) (w := w) (base := base) T B
  refine B.Outgoing_known.F.okX sc_Outgoing_known (fun vs H Q E h => ?_) (fun cdv A outer s H vs Q E hr h => ?_)
  · obtain ⟨a, l, g, xs, M, d, x, rfl, _⟩ := h
    rfl
  · obtain ⟨a, l, g, xs, M, d, x, rfl, ho, hdx, hx, q, q0⟩ := h
    obtain ⟨⟨dx, ha⟩, hl⟩ := id ho
    have nal := ho.ne
    refine ⟨_, (pss_cons (ps_if (PW.pt (pw_or (pt_not (pt_val (pe_call G_is_number (hr.mono (by decide)) rfl B.is_number.m B.is_number.F.kp B.is_number.b .nil pass0 (pa_cons (pv 1) pa_nil)))) (pw_or1 (pt_cmpR op_gt (pv 1) (pe_meth0 (pv 0) T.W_Outgoing.cl ⟨B.Outgoing_many_put.a, B.Outgoing_many_put.i, B.Outgoing_many_put.F.kp⟩ G_Outgoing_many_put (hr.mono (by decide)) B.Outgoing_many_put.b .nil pass0) (nomark _))))) (pss_one (ps_raise rfl (takes_of rfl rfl rfl rfl) (pmk_pass T.x_NoNumber B.NoNumber_init.a B.NoNumber_init.t G_NoNumber_init (hr.mono (by decide)) B.NoNumber_init.b pass0 rfl T.g_NoNumber))) pss_nil)
      (pss_cons (ps_set (i := 2) sc_Outgoing_known.nd rfl (Or.inl rfl) (pe_callB (call_max2 rfl) (by rfl) T.b_max (by decide +kernel) (pa_cons (pe_op op_sub (pv 1) (pe_fld (pv 0) rfl)) (pa_cons pe_int pa_nil))))
      (pss_cons (ps_fldaug (pv 0) (pv 2) in_add)
      (pss_cons (ps_fld (pv 0) (pe_slice sl_list (pe_fld (pv 0) rfl) (po_some (pv 2)) po_none) rfl)
      (pss_one (ps_ret (pv 2))))))), ?_⟩
    walk_at "rd"
    refine ⟨M, d, x, rfl, hdx, ?_⟩
    walk_at "rd"
    refine rd_ite (fun h1 => ?_) (fun h1 => ?_)
    · refine rd_yes rfl ?_
      intro e he
      exact ⟨⟨e, rfl, rfl, rfl⟩, q0 (.inl (by simpa using h1)) _ (Same.refl H)⟩
    have hnum : isNum d = true := by simpa using h1
    obtain ⟨n, rfl, h0⟩ : ∃ n : Int, d = .int n ∧ 0 ≤ n := by
      cases d with
      | int n => exact ⟨n, rfl, by simpa [isNum] using hnum⟩
      | _ => cases hnum
    cases dt_int' hdx
    walk_at "rd"
    refine rd_meth ?_
    walk_at "rd"
    refine ⟨a, dx, _, rfl, ha, rfl, ?_⟩
    walk_at "rd"
    refine ⟨a, l, g, _, rfl, ho, ?_⟩
    walk_at "rd"
    refine rd_ite (fun h2 => ?_) (fun h2 => ?_)
    · intro e he
      exact ⟨⟨e, rfl, rfl, rfl⟩, q0 (.inr ⟨n, rfl, by have := of_decide_eq_true h2; omega⟩) _ (Same.refl H)⟩
    have h1 : n ≤ g + (xs.length : Nat) := by have := of_decide_eq_false h2; omega
    walk_at "rd"
    refine ⟨a, T.c_Outgoing, dx, _, _, rfl, ha, T.W_Outgoing.cl, T.na_let_go, oF_go _ _, ?_⟩
    walk_at "rd"
    refine ⟨n - g, 0, rfl, ?_⟩
    obtain ⟨u, hu⟩ : ∃ u : Nat, (u : Int) = (if 0 > n - g then (0 : Int) else n - g) := ⟨(if 0 > n - g then (0 : Int) else n - g).toNat, by split <;> omega⟩
    have hu2 : (u : Int) = if 0 < n - g then n - g else 0 := by
      rw [hu]
      by_cases c : 0 < n - g
      · rw [if_pos c, if_neg (by omega)]
      · rw [if_neg c]
        split <;> omega
    rw [← hu]
    walk_at "rd"
    refine rd_sfldaug ?_
    walk_at "rd"
    refine ⟨a, T.c_Outgoing, dx, _, _, rfl, ha, T.W_Outgoing.cl, T.na_let_go, oF_go _ _, ?_⟩
    walk_at "rd"
    refine ⟨_, _, rfl, rfl, dx, _, ha, (by show 2 < 1000; decide), ?_⟩
    rw [oF_put]
    dsimp only
    walk_at "rd"
    refine rd_sfld ?_
    walk_at "rd"
    refine ⟨a, T.c_Outgoing, dx, _, _, rfl, upd_same, T.W_Outgoing.cl, T.na_things, oF_th _ _, ?_⟩
    walk_at "rd"
    refine ⟨l, _, rfl, SqL.of ((upd_ne nal.symm).trans hl), fun l' hl' => ?_⟩
    have nal' : a ≠ l' := ne_of_none upd_same hl'
    have nl0 : H l' = none := by
      rw [upd_ne nal'.symm] at hl'
      exact hl'
    walk_at "rd"
    refine ⟨a, T.c_Outgoing, dx, _, rfl, (upd_ne nal').trans upd_same, T.W_Outgoing.cl, T.na_things, (by show 2 < 1000; decide), ?_⟩
    rw [oF_set]
    walk_at "rd"
    have ec : cutV xs (some (u : Int)) none = xs.drop u := by
      unfold cutV
      rw [HT.sIx_none]
      have hul : u ≤ xs.length := by
        by_cases c : 0 < n - g
        · rw [if_pos c] at hu2
          omega
        · rw [if_neg c] at hu2
          omega
      rw [HT.sIx_nat, Nat.min_eq_left hul, List.take_of_length_le (by rw [List.length_drop]; omega)]
    refine q n l' u _ rfl h0 h1 hu2 (fun b o nb e => ?_) nl0 ⟨⟨dx, upd_same⟩, ?_⟩
    · have nb' : b ≠ a := by simpa using nb
      rw [upd_ne nb', upd_ne (ne_of_none e nl0), upd_ne nb']
      exact e
    · rw [upd_ne nal'.symm, upd_same, ec]
theorem ok_ostate (T : Tx K mg) (B : Bk K mg T) : FnOk P w K mg base CX0 1 B.Outgoing_state.f B.Outgoing_state.fd ["self"] (spOState T.c_Outgoing) := by
  refine B.Outgoing_state.F.ok sc_Outgoing_state (fun vs H Q E h => ?_) (fun cdv A outer s H vs Q E hr h => ?_)
  · obtain ⟨a, l, g, xs, rfl, _⟩ := h
    rfl
  · obtain ⟨a, l, g, xs, rfl, ⟨⟨dx, ha⟩, hl⟩, q⟩ := h
    refine ⟨_, (pss_one (ps_ret (pe_tup (pa_cons (pe_fld (pv 0) rfl) (pa_cons (pe_callTy call_tuple_of (by rfl) T.b_tuple (by decide +kernel) (pa_cons (pe_fld (pv 0) rfl) pa_nil)) pa_nil))))), ?_⟩
    walk_at "rd"
    refine ⟨a, T.c_Outgoing, dx, _, _, rfl, ha, T.W_Outgoing.cl, T.na_let_go, oF_go _ _, ?_⟩
    walk_at "rd"
    refine ⟨a, T.c_Outgoing, dx, _, _, rfl, ha, T.W_Outgoing.cl, T.na_things, oF_th _ _, ?_⟩
    walk_at "rd"
    refine ⟨l, xs, rfl, .inl ⟨SqL.of hl, fun u nu => ?_⟩⟩
    walk_at "rd"
    refine rd_disp rfl fun t nt => ?_
    have s1 := same_new (o := .tup xs) nu
    exact q t u _ (s1.trans (same_new nt)) (s1.free nt) upd_same ((upd_ne (ne_of_none upd_same nt)).trans upd_same) nu
end
end Mw

/-! X5 -/
namespace Mw
open PySem L2
abbrev iF (k : Int) (d : Addr) : List (Str × V) := [(("many" : Str), .int k), (("ahead" : Str), .ref d)]
theorem iF_mn (k : Int) (d : Addr) : (iF k d).lookup ("many" : Str) = some (.int k) := rfl
theorem iF_ah (k : Int) (d : Addr) : (iF k d).lookup ("ahead" : Str) = some (.ref d) := rfl
theorem iF_put (k k' : Int) (d : Addr) : putF ("many" : Str) (.int k') (iF k d) = iF k' d := rfl
/-- the other end, at e; what is held ahead at d -/
def IncAt (C : Addr) (H : Hp) (e d : Addr) (k : Int) (m : List (Key × V)) : Prop := (∃ dx, H e = some (.ins C dx (iF k d))) ∧ H d = some (.dK m)
theorem IncAt.ne {C e d : Addr} {H : Hp} {k : Int} {m : List (Key × V)} (h : IncAt C H e d k m) : e ≠ d := by
  obtain ⟨⟨dx, h1⟩, h2⟩ := h
  exact ne_of h1 h2 (by intro z; cases z)
theorem IncAt.same {C e d : Addr} {H H' : Hp} {k : Int} {m : List (Key × V)} (h : IncAt C H e d k m) (s : Same H H') : IncAt C H' e d k m := by
  obtain ⟨⟨dx, h1⟩, h2⟩ := h
  exact ⟨⟨dx, s _ _ h1⟩, s _ _ h2⟩
theorem IncAt.fr {C e d : Addr} {H H' : Hp} {k : Int} {m : List (Key × V)} {M : List Addr} (h : IncAt C H e d k m) (s : Fr M H H') (n1 : e ∉ M) (n2 : d ∉ M) : IncAt C H' e d k m := by
  obtain ⟨⟨dx, h1⟩, h2⟩ := h
  exact ⟨⟨dx, s _ _ n1 h1⟩, s _ _ n2 h2⟩
/-- what goes out, one number behind the other -/
def drn : Nat → Int → List (Key × V) → Int × List (Key × V) × List V
  | 0, k, m => (k, m, [])
  | n + 1, k, m => match valV m (.inl k) with
    | none => (k, m, [])
    | some v => ((drn n (k + 1) (dropK m (.inl k))).1, (drn n (k + 1) (dropK m (.inl k))).2.1, v :: (drn n (k + 1) (dropK m (.inl k))).2.2)
theorem drop_lt {m : List (Key × V)} {k : Key} {v : V} (h : valV m k = some v) : (dropK m k).length < m.length := by
  have e := valV_any (κ := Key) k m
  rw [h] at e
  unfold dropK
  induction m with
  | nil => cases e
  | cons x m ih =>
    rw [List.filter_cons]
    by_cases c : x.1 = k
    · rw [if_neg (by simp [c])]
      have := List.length_filter_le (fun kv : Key × V => decide (kv.1 ≠ k)) m
      rw [List.length_cons]
      omega
    · rw [if_pos (by simp [c]), List.length_cons, List.length_cons]
      rw [valV_neg c] at h
      rw [List.any_cons] at e
      have := ih h (by simpa [c] using e)
      omega
theorem drn_more : ∀ (n : Nat) (k : Int) (m : List (Key × V)), m.length ≤ n → drn n k m = drn m.length k m := by
  intro n
  induction n with
  | zero =>
    intro k m h
    have : m.length = 0 := by omega
    rw [this]
  | succ n ih =>
    intro k m h
    cases hv : valV m (.inl k) with
    | none =>
      have e1 : drn (n + 1) k m = (k, m, []) := by
        unfold drn
        rw [hv]
      rw [e1]
      cases hm : m.length with
      | zero => rfl
      | succ j =>
        unfold drn
        rw [hv]
    | some v =>
      have h1 := drop_lt hv
      obtain ⟨j, hj⟩ : ∃ j, m.length = j + 1 := ⟨m.length - 1, by omega⟩
      have e1 : ∀ i, drn (i + 1) k m = ((drn i (k + 1) (dropK m (.inl k))).1, (drn i (k + 1) (dropK m (.inl k))).2.1, v :: (drn i (k + 1) (dropK m (.inl k))).2.2) := fun i => by
        show (match valV m (.inl k) with | none => _ | some v => _) = _
        rw [hv]
      rw [hj, e1, e1, ih _ _ (by omega)]
      by_cases c : j ≤ n
      · have e2 : drn j (k + 1) (dropK m (.inl k)) = drn (dropK m (.inl k)).length (k + 1) (dropK m (.inl k)) := by
          have key : ∀ i, (dropK m (.inl k)).length ≤ i → i ≤ n → drn i (k + 1) (dropK m (.inl k)) = drn (dropK m (.inl k)).length (k + 1) (dropK m (.inl k)) := by
            intro i hi hin
            have g1 := ih (k + 1) (dropK m (.inl k)) (by omega)
            by_cases z : i = n
            · rw [z]
              exact g1
            · exact drn_aux i (k + 1) _ hi
          exact key j (by omega) c
        rw [e2]
      · omega
where
  drn_aux : ∀ (n : Nat) (k : Int) (m : List (Key × V)), m.length ≤ n → drn n k m = drn m.length k m := by
    intro n
    induction n with
    | zero =>
      intro k m h
      have : m.length = 0 := by omega
      rw [this]
    | succ n ih =>
      intro k m h
      by_cases c : m.length = n + 1
      · rw [c]
      · have g := ih k m (by omega)
        rw [← g]
        have step : ∀ (i : Nat) (k : Int) (m : List (Key × V)), m.length ≤ i → drn (i + 1) k m = drn i k m := by
          intro i
          induction i with
          | zero =>
            intro k m h
            have : m = [] := List.eq_nil_of_length_eq_zero (by omega)
            subst this
            rfl
          | succ i ih2 =>
            intro k m h
            cases hv : valV m (.inl k) with
            | none =>
              show (match valV m (.inl k) with | none => _ | some v => _) = (match valV m (.inl k) with | none => _ | some v => _)
              rw [hv]
            | some v =>
              have h1 := drop_lt hv
              show (match valV m (.inl k) with | none => _ | some v => _) = (match valV m (.inl k) with | none => _ | some v => _)
              rw [hv]
              show ((drn (i + 1) (k + 1) (dropK m (.inl k))).1, (drn (i + 1) (k + 1) (dropK m (.inl k))).2.1, v :: (drn (i + 1) (k + 1) (dropK m (.inl k))).2.2) = _
              rw [ih2 _ _ (by omega)]
        exact step n k m (by omega)
def drain (k : Int) (m : List (Key × V)) : Int × List (Key × V) × List V := drn m.length k m
theorem drain_no {k : Int} {m : List (Key × V)} (h : valV m (.inl k) = none) : drain k m = (k, m, []) := by
  unfold drain
  cases hm : m.length with
  | zero => rfl
  | succ j =>
    unfold drn
    rw [h]
theorem drain_yes {k : Int} {m : List (Key × V)} {v : V} (h : valV m (.inl k) = some v) : drain k m = ((drain (k + 1) (dropK m (.inl k))).1, (drain (k + 1) (dropK m (.inl k))).2.1, v :: (drain (k + 1) (dropK m (.inl k))).2.2) := by
  have h1 := drop_lt h
  obtain ⟨j, hj⟩ : ∃ j, m.length = j + 1 := ⟨m.length - 1, by omega⟩
  unfold drain
  rw [hj]
  show (match valV m (.inl k) with | none => _ | some v => _) = _
  rw [h]
  show ((drn j (k + 1) (dropK m (.inl k))).1, (drn j (k + 1) (dropK m (.inl k))).2.1, v :: (drn j (k + 1) (dropK m (.inl k))).2.2) = _
  rw [drn_more j _ _ (by omega)]
/-- what stands ahead behind one that is heard -/
def hear (k n : Int) (y : V) (m : List (Key × V)) : List (Key × V) := if k ≤ n ∧ n < k + 1000 ∧ valV m (.inl n) = none then m ++ [(.inl n, y)] else m
theorem hear_len {k n : Int} {y : V} {m : List (Key × V)} : (hear k n y m).length ≤ m.length + 1 := by
  unfold hear
  split
  · rw [List.length_append]
    exact Nat.le_refl _
  · omega
def spIncInit (C : Addr) : Sp := fun vs H Q _ => ∃ a dx, vs = [.ref a] ∧ H a = some (.ins C dx []) ∧ ∀ d H', Fr [a] H H' → H d = none → IncAt C H' a d 0 [] → Q .non H'
def spITake (CP : Addr → Prop) (C CN : Addr) : Sp := fun vs H Q E => ∃ e d k m M dn x y, vs = [.ref e, x, y] ∧ IncAt C H e d k m ∧ Dt CP M H dn x ∧ m.length ≤ 1000 ∧
  (∀ n : Int, dn = .int n → 0 ≤ n → n < 4294967296 → ∀ (L : Addr) (H' : Hp), Fr [e, d] H H' → H L = none → IncAt C H' e d (drain k (hear k n y m)).1 (drain k (hear k n y m)).2.1 → H' L = some (.lst (drain k (hear k n y m)).2.2) → Q (.ref L) H') ∧ (isNb 4294967296 dn = false → ∀ H', Same H H' → E (.ref CN) none H')
def spTaken (C : Addr) : Sp := fun vs H Q _ => ∃ e d k m, vs = [.ref e] ∧ IncAt C H e d k m ∧ Q (.int k) H
def spHeld (C : Addr) : Sp := fun vs H Q _ => ∃ e d k m ns, vs = [.ref e] ∧ IncAt C H e d k m ∧ m.map (·.1) = ns.map Sum.inl ∧ ∀ (t : Addr) (ns' : List Int) (H' : Hp), Same H H' → H t = none → H' t = some (.tup (ns'.map V.int)) → ns'.Perm ns → ns'.Pairwise (· ≤ ·) → Q (.ref t) H'
/-- pairs of number and thing, at addresses -/
def PrsAt (H : Hp) (ts : List Addr) (ps : List (Int × V)) : Prop := ts.length = ps.length ∧ ∀ (j : Nat) t x, ts[j]? = some t → ps[j]? = some x → H t = some (.tup [.int x.1, x.2])
theorem PrsAt.same {H H' : Hp} {ts : List Addr} {ps : List (Int × V)} (h : PrsAt H ts ps) (s : KT H H') : PrsAt H' ts ps := ⟨h.1, fun j t x h1 h2 => s _ _ (h.2 j t x h1 h2)⟩
def spIState (C : Addr) : Sp := fun vs H Q _ => ∃ e d k m ns, vs = [.ref e] ∧ IncAt C H e d k m ∧ m.map (·.1) = ns.map Sum.inl ∧ ns.length ≤ 1000 ∧
  ∀ (t u : Addr) (ts : List Addr) (ps : List (Int × V)) (H' : Hp), Same H H' → H t = none → H u = none → H' t = some (.tup [.int k, .ref u]) → H' u = some (.tup (ts.map V.ref)) → PrsAt H' ts ps → (ps.map (·.1)).Perm ns → (ps.map (·.1)).Pairwise (· ≤ ·) → (∀ x ∈ ps, valV m (.inl x.1) = some x.2) → Q (.ref t) H'
def spIncg (C : Addr) : Sp := fun vs H Q _ => ∃ s u k ts ps, vs = [.ref s] ∧ H s = some (.tup [.int k, .ref u]) ∧ H u = some (.tup (ts.map V.ref)) ∧ PrsAt H ts ps ∧ ps.length ≤ 1000 ∧ (ps.map (·.1)).Nodup ∧
  ∀ e d H', Same H H' → H e = none → H d = none → IncAt C H' e d k (ps.map fun x => (.inl x.1, x.2)) → Q (.ref e) H'
def spICopy (C : Addr) : Sp := fun vs H Q _ => ∃ e d k m ns, vs = [.ref e] ∧ IncAt C H e d k m ∧ m.map (·.1) = ns.map Sum.inl ∧ ns.length ≤ 1000 ∧ ns.Nodup ∧
  ∀ (e2 d2 : Addr) (ps : List (Int × V)) (H' : Hp), Same H H' → H e2 = none → H d2 = none → IncAt C H' e2 d2 k (ps.map fun x => (.inl x.1, x.2)) → (ps.map (·.1)).Perm ns → (ps.map (·.1)).Pairwise (· ≤ ·) → (∀ x ∈ ps, valV m (.inl x.1) = some x.2) → Q (.ref e2) H'
theorem rd_dnotin {td ty : TE} {σ : L2.St} {H : Hp} {Q : VK} (h : ty σ H fun y H1 => td σ H1 fun x H2 => ∃ a o, x = .ref a ∧ DGet H2 a y o ∧ Q (.bl (!o.isSome)) H2) : tDNotIn ty td σ H Q := h
theorem rd_din {td ty : TE} {σ : L2.St} {H : Hp} {Q : VK} (h : ty σ H fun y H1 => td σ H1 fun x H2 => ∃ a o, x = .ref a ∧ DGet H2 a y o ∧ Q (.bl o.isSome) H2) : tDIn ty td σ H Q := h
theorem rd_dpop1 {td ty : TE} {σ : L2.St} {H : Hp} {Q : VK} (h : td σ H fun x H1 => ∃ a, x = .ref a ∧ IsD H1 a ∧ ty σ H1 fun y H2 => ∃ kvs k v, H2 a = some (.dK kvs) ∧ y = kV k ∧ valV kvs k = some v ∧ Q v (upd H2 a (.dK (dropK kvs k)))) : tDPop1 td ty σ H Q := h
theorem isD_k {H : Hp} {a : Addr} {m : List (Key × V)} (h : H a = some (.dK m)) : IsD H a := .inl ⟨m, .inl h⟩
theorem key_there {m : List (Key × V)} {ns : List Int} (en : m.map (·.1) = ns.map Sum.inl) {n : Int} (h : n ∈ ns) : ∃ v, valV m (.inl n) = some v := by
  have e := valV_any (κ := Key) (.inl n) m
  cases z : valV m (.inl n) with
  | some v => exact ⟨v, rfl⟩
  | none =>
    rw [z] at e
    have hm : (Sum.inl n : Key) ∈ m.map (·.1) := by
      rw [en]
      exact List.mem_map.mpr ⟨n, h, rfl⟩
    obtain ⟨x, hx, ex⟩ := List.mem_map.mp hm
    have := List.any_eq_false.mp e x hx
    exact absurd (decide_eq_true ex) this
theorem PrsAt.nil {H : Hp} : PrsAt H [] [] := ⟨rfl, fun j t x h => by simp at h⟩
theorem PrsAt.snoc {H : Hp} {ts : List Addr} {ps : List (Int × V)} {t : Addr} {x : Int × V} (h : PrsAt H ts ps) (ht : H t = some (.tup [.int x.1, x.2])) : PrsAt H (ts ++ [t]) (ps ++ [x]) := by
  refine ⟨by rw [List.length_append, List.length_append, h.1]; rfl, fun j t' x' h1 h2 => ?_⟩
  rw [List.getElem?_append] at h1 h2
  by_cases c : j < ts.length
  · rw [if_pos c] at h1
    rw [if_pos (by rw [← h.1]; exact c)] at h2
    exact h.2 j t' x' h1 h2
  · rw [if_neg c] at h1
    rw [if_neg (by rw [← h.1]; exact c)] at h2
    have e : j - ts.length = 0 := by
      have := (List.getElem?_eq_some_iff.mp h1).1
      simp at this
      omega
    rw [e] at h1
    rw [← h.1, e] at h2
    simp at h1 h2
    subst h1 h2
    exact ht
section
variable {P : Program} {w : World} {K : PySem.W.Frag} {mg : Str → Option Value} {base : Heap}
local macro_rules | `(tactic| walk_at "rd") => `(tactic| (repeat (first
  | ((with_reducible refine' rd_var ?h0 ?_); (case h0 => rfl))
  | with_reducible refine rd_c ?_
  | with_reducible refine rd_op ?_
  | with_reducible refine rd_nil ?_
  | with_reducible refine rd_cons ?_
  | with_reducible refine rd_tup ?_
  | with_reducible refine rd_lst ?_
  | with_reducible refine rd_ifs ?_
  | with_reducible refine rd_seq ?_
  | with_reducible refine rd_next ?_
  | with_reducible refine rd_ret ?_
  | with_reducible refine rd_asg ?_
  | ((with_reducible refine' rd_gset ?hs ?_); (case hs => ((simp only [L2.start, List.map_cons, List.map_nil, List.length_cons, List.length_nil, List.cons_append, List.nil_append, List.set_cons_zero, List.set_cons_succ, Nat.reduceAdd, Nat.reduceSub, Nat.zero_add, List.reduceReplicate]); rfl)))
  | with_reducible refine rd_drop ?_
  | with_reducible refine rd_test ?_
  | with_reducible refine rd_B ?_
  | with_reducible refine rd_bl ?_
  | with_reducible refine rd_blP ?_
  | with_reducible refine rd_andV ?_
  | with_reducible refine rd_orV ?_
  | with_reducible refine rd_notV ?_
  | with_reducible refine rd_and ?_
  | with_reducible refine rd_or ?_
  | with_reducible refine rd_not ?_
  | with_reducible refine rd_chain ?_
  | with_reducible refine rd_dput ?_
  | with_reducible refine rd_dget ?_
  | with_reducible refine rd_cb ?_
  | with_reducible refine rd_call ?_
  | with_reducible refine rd_un ?_
  | with_reducible refine rd_sl ?_
  | with_reducible refine rd_nopart ?_
  | with_reducible refine rd_part ?_
  | with_reducible refine rd_intP ?_
  | with_reducible refine rd_rU ?_
  | with_reducible refine rd_fld ?_
  | with_reducible refine rd_eqI ?_
  | with_reducible refine rd_neI ?_
  | with_reducible refine rd_mko ?_
  | with_reducible refine rd_bm ?_
  | with_reducible refine rd_gsub ?_
  | with_reducible refine rd_i0 ?_)))
theorem ok_is_link_number (T : Tx K mg) (B : Bk K mg T) : FnOk P w K mg base CX0 4 B.is_link_number.f B.is_link_number.fd ["thing"] (spJ T.CP (isNb 4294967296)) := by
  have G_is_number_below := ok_is_number_below (P := P) (w := w) (base := base) T B
  refine B.is_link_number.F.ok sc_is_link_number (fun vs H Q E h => ?_) (fun cdv A outer s H vs Q E hr h => ?_)
  · obtain ⟨M, d, x, rfl, _⟩ := h
    rfl
  · obtain ⟨M, d, x, rfl, hd, q⟩ := h
    refine ⟨_, (pss_one (ps_ret (pe_call G_is_number_below (hr.mono (by decide)) rfl B.is_number_below.m B.is_number_below.F.kp B.is_number_below.b .nil pass0 (pa_cons (pe_glob (v := .int 4294967296) (by rfl) T.g_NUMBER_LIMIT ⟨_, rfl⟩) (pa_cons (pv 0) pa_nil))))), ?_⟩
    walk_at "rd"
    exact ⟨M, _, d, x, rfl, hd, q⟩
theorem ok_inc_init (T : Tx K mg) (B : Bk K mg T) : FnOk P w K mg base CX0 1 B.Incoming_init.f B.Incoming_init.fd ["self"] (spIncInit T.c_Incoming) := by
  refine B.Incoming_init.F.ok sc_Incoming_init (fun vs H Q E h => ?_) (fun cdv A outer s H vs Q E hr h => ?_)
  · obtain ⟨a, dx, rfl, _⟩ := h
    rfl
  · obtain ⟨a, dx, rfl, ha, q⟩ := h
    refine ⟨_, (pss_cons (ps_fld (pv 0) pe_int rfl)
      (pss_one (ps_fld (pv 0) pe_dnewK rfl))), ?_⟩
    walk_at "rd"
    refine rd_sfld ?_
    walk_at "rd"
    refine ⟨a, T.c_Incoming, dx, _, rfl, ha, T.W_Incoming.cl, T.na_many, (by show 0 < 1000; decide), ?_⟩
    dsimp only
    walk_at "rd"
    refine rd_sfld ?_
    walk_at "rd"
    intro l nl
    have nal : a ≠ l := ne_of_none upd_same nl
    walk_at "rd"
    refine ⟨a, T.c_Incoming, dx, _, rfl, (upd_ne nal).trans upd_same, T.W_Incoming.cl, T.na_ahead, (by show 1 < 1000; decide), ?_⟩
    have nl0 : H l = none := by
      rw [upd_ne nal.symm] at nl
      exact nl
    refine q l _ (fun b o n e => ?_) nl0 ⟨⟨dx, upd_same⟩, ?_⟩
    · have nb : b ≠ a := by simpa using n
      rw [upd_ne nb, upd_ne (ne_of_none e nl0), upd_ne nb]
      exact e
    · rw [upd_ne nal.symm]
      exact upd_same
theorem ok_taken (T : Tx K mg) (B : Bk K mg T) : FnOk P w K mg base CX0 1 B.Incoming_taken.f B.Incoming_taken.fd ["self"] (spTaken T.c_Incoming) := by
  refine B.Incoming_taken.F.ok sc_Incoming_taken (fun vs H Q E h => ?_) (fun cdv A outer s H vs Q E hr h => ?_)
  · obtain ⟨e, d, k, m, rfl, _⟩ := h
    rfl
  · obtain ⟨e, d, k, m, rfl, ⟨⟨dx, he⟩, hd⟩, q⟩ := h
    refine ⟨_, (pss_one (ps_ret (pe_fld (pv 0) rfl))), ?_⟩
    walk_at "rd"
    exact ⟨e, T.c_Incoming, dx, _, _, rfl, he, T.W_Incoming.cl, T.na_many, iF_mn _ _, q⟩
theorem ok_held (T : Tx K mg) (B : Bk K mg T) : FnOk P w K mg base CX0 1 B.Incoming_held.f B.Incoming_held.fd ["self"] (spHeld T.c_Incoming) := by
  refine B.Incoming_held.F.ok sc_Incoming_held (fun vs H Q E h => ?_) (fun cdv A outer s H vs Q E hr h => ?_)
  · obtain ⟨e, d, k, m, ns, rfl, _⟩ := h
    rfl
  · obtain ⟨e, d, k, m, ns, rfl, ⟨⟨dx, he⟩, hd⟩, en, q⟩ := h
    refine ⟨_, (pss_one (ps_ret (pe_callTy call_tuple_of (by rfl) T.b_tuple (by decide +kernel) (pa_cons (pe_callB (cr_sortedD rfl) (by rfl) T.b_sorted (by decide +kernel) (pa_cons (pe_fld (pv 0) rfl) pa_nil)) pa_nil)))), ?_⟩
    walk_at "rd"
    refine ⟨e, T.c_Incoming, dx, _, _, rfl, he, T.W_Incoming.cl, T.na_ahead, iF_ah _ _, ?_⟩
    walk_at "rd"
    refine ⟨d, m, ns, rfl, hd, en, fun ns' l hpm hpw nl => ?_⟩
    walk_at "rd"
    refine ⟨l, _, rfl, .inl ⟨SqL.of upd_same, fun t nt => ?_⟩⟩
    have s1 := same_new (o := .lst (ns'.map V.int)) nl
    exact q t ns' _ (s1.trans (same_new nt)) (s1.free nt) upd_same hpm hpw
theorem ok_itake (T : Tx K mg) (B : Bk K mg T) : FnOk P w K mg base (L2.CX P w) 5 B.Incoming_take.f B.Incoming_take.fd ["self", "number", "thing"] (spITake T.CP T.c_Incoming T.c_NoNumber) := by
  have G_is_link_number := ok_is_link_number (P := P) (w := w) (base := base) T B
  have G_NoNumber_init := ok_number_init (P := P) (w := w) (base := base) T B
  refine B.Incoming_take.F.okX sc_Incoming_take (fun vs H Q E h => ?_) (fun cdv A outer s H vs Q E hr h => ?_)
  · obtain ⟨e, d, k, m, M, dn, x, y, rfl, _⟩ := h
    rfl
  · obtain ⟨e, d, k, m, M, dn, x, y, rfl, hi, hdx, hm, q, q0⟩ := h
    obtain ⟨⟨dx, he⟩, hd⟩ := id hi
    have ned := hi.ne
    refine ⟨_, (pss_cons (ps_if (pt_not (pt_val (pe_call G_is_link_number (hr.mono (by decide)) rfl B.is_link_number.m B.is_link_number.F.kp B.is_link_number.b .nil pass0 (pa_cons (pv 1) pa_nil)))) (pss_one (ps_raise rfl (takes_of rfl rfl rfl rfl) (pmk_pass T.x_NoNumber B.NoNumber_init.a B.NoNumber_init.t G_NoNumber_init (hr.mono (by decide)) B.NoNumber_init.b pass0 rfl T.g_NoNumber))) pss_nil)
      (C8.pss_cut (ps_if (PW.pt (pw_and (pt_chain op_le op_lt (pe_fld (pv 0) rfl) (pv 1) (pe_op op_add (pe_fld (pv 0) rfl) (pe_glob (v := .int 1000) (by rfl) T.g_HELD_AHEAD ⟨_, rfl⟩))) (pw_and1 (pt_cmp (pc_dnotin (hu_of hr) (pv 1) (pe_fld (pv 0) rfl)))))) (pss_one (ps_dput (hu_of hr) (pe_fld (pv 0) rfl) (pv 1) (pv 2) rfl)) pss_nil)
      (pss_cons (ps_set (i := 3) sc_Incoming_take.nd rfl (Or.inl rfl) (pe_lst pa_nil))
      (pss_cons (ps_while (passes_of rfl) (pt_cmp (pc_din (hu_of hr) (pe_fld (pv 0) rfl) (pe_fld (pv 0) rfl))) (pss_cons (ps_expr (pe_bm PySem.F.plainAttrs_list PySem.F.slot_list_append PySem.F.type_list_append mt_append (pv 3) (pa_cons (pe_dpop1 (pe_fld (pv 0) rfl) (pe_fld (pv 0) rfl) ⟨rfl, rfl, rfl, rfl⟩) pa_nil)))
      (pss_one (ps_fldaug (pv 0) pe_int in_add))))
      (pss_one (ps_ret (pv 3))))))), ?_⟩
    walk_at "rd"
    refine ⟨M, dn, x, rfl, hdx, ?_⟩
    walk_at "rd"
    refine rd_ite (fun h1 => ?_) (fun h1 => ?_)
    · intro e he
      exact ⟨⟨e, rfl, rfl, rfl⟩, q0 (by simpa using h1) _ (Same.refl H)⟩
    have hnb : isNb 4294967296 dn = true := by simpa using h1
    obtain ⟨n, rfl, n0, n1⟩ : ∃ n : Int, dn = .int n ∧ 0 ≤ n ∧ n < 4294967296 := by
      cases dn with
      | int n =>
        have h3 : (decide (0 ≤ n) && decide (n < 4294967296)) = true := hnb
        simp only [Bool.and_eq_true, decide_eq_true_eq] at h3
        exact ⟨n, rfl, h3.1, h3.2⟩
      | _ => cases hnb
    replace q := q n rfl n0 n1
    cases dt_int' hdx
    clear h1
    walk_at "rd"
    refine ⟨fun σ1 H1 => σ1 = [some (.ref e), some (.int n), some y, none] ∧ Fr [d] H H1 ∧ IncAt T.c_Incoming H1 e d k (hear k n y m), ?_, ?_⟩
    · have stay : ¬ (k ≤ n ∧ n < k + 1000 ∧ valV m (.inl n) = none) → [some (V.ref e), some (.int n), some y, none] = [some (.ref e), some (.int n), some y, none] ∧ Fr [d] H H ∧ IncAt T.c_Incoming H e d k (hear k n y m) := fun c => ⟨rfl, Fr.same (Same.refl H), by unfold hear; rw [if_neg c]; exact hi⟩
      walk_at "rd"
      refine ⟨e, T.c_Incoming, dx, _, _, rfl, he, T.W_Incoming.cl, T.na_many, iF_mn _ _, ?_⟩
      walk_at "rd"
      refine rd_ite (fun h1 => ?_) (fun h1 => ?_)
      · walk_at "rd"
        refine ⟨e, T.c_Incoming, dx, _, _, rfl, he, T.W_Incoming.cl, T.na_many, iF_mn _ _, ?_⟩
        walk_at "rd"
        refine rd_ite (fun h2 => ?_) (fun h2 => ?_)
        · walk_at "rd"
          refine rd_dnotin ?_
          walk_at "rd"
          refine ⟨e, T.c_Incoming, dx, _, _, rfl, he, T.W_Incoming.cl, T.na_ahead, iF_ah _ _, ?_⟩
          refine ⟨d, _, rfl, DGet.k (k := .inl n) hd, ?_⟩
          walk_at "rd"
          refine rd_ite (fun h3 => ?_) (fun h3 => ?_)
          · have hv : valV m (.inl n) = none := by
              cases z : valV m (.inl n) with
              | none => rfl
              | some x =>
                rw [z] at h3
                cases h3
            walk_at "rd"
            refine ⟨e, T.c_Incoming, dx, _, _, rfl, he, T.W_Incoming.cl, T.na_ahead, iF_ah _ _, ?_⟩
            walk_at "rd"
            refine ⟨d, _, rfl, DPut.k (k := .inl n) hd (small1000 (by omega)), ?_⟩
            refine ⟨rfl, Fr.mut, ⟨dx, (upd_ne ned).trans he⟩, ?_⟩
            rw [upd_same, putK_new _ hv]
            unfold hear
            rw [if_pos ⟨of_decide_eq_true h1, of_decide_eq_true h2, hv⟩]
          · refine stay fun c => ?_
            rw [c.2.2] at h3
            cases h3
        · try with_reducible refine rd_no rfl ?_
          exact stay fun c => of_decide_eq_false h2 c.2.1
      · walk_at "rd"
        refine rd_no rfl ?_
        exact stay fun c => of_decide_eq_false h1 c.1
    rintro σ1 H1 ⟨rfl, f1, hi1⟩
    have hml := hear_len (k := k) (n := n) (y := y) (m := m)
    generalize hear k n y m = m1 at *
    walk_at "rd"
    refine rd_disp rfl fun L nL => ?_
    have nLd : L ≠ d := fun z => by
      rw [z, hi1.2] at nL
      cases nL
    have nLe : L ≠ e := fun z => by
      obtain ⟨⟨dx1, g⟩, _⟩ := hi1
      rw [z, g] at nL
      cases nL
    have nL0 : H L = none := f1.free nL (by simpa using nLd)
    walk_at "rd"
    refine ⟨fun μ σ H2 => ∃ k2 m2 acc, σ = [some (.ref e), some (.int n), some y, some (.ref L)] ∧ Fr [e, d] H H2 ∧ IncAt T.c_Incoming H2 e d k2 m2 ∧ H2 L = some (.lst acc) ∧ μ = m2.length ∧ m2.length + acc.length ≤ 1001 ∧ ((drain k2 m2).1, (drain k2 m2).2.1, acc ++ (drain k2 m2).2.2) = drain k m1,
      ⟨_, k, m1, [], rfl, (f1.more (by simp)).trans (Fr.same (same_new nL)), hi1.same (same_new nL), upd_same, rfl, by simp; omega, rfl⟩, ?_⟩
    rintro μ σ H2 ⟨k2, m2, acc, rfl, f2, hi2, hL2, hμ, hlen, hdr⟩
    obtain ⟨⟨dx2, he2⟩, hd2⟩ := id hi2
    walk_at "rd"
    refine rd_din ?_
    walk_at "rd"
    refine ⟨e, T.c_Incoming, dx2, _, _, rfl, he2, T.W_Incoming.cl, T.na_many, iF_mn _ _, ?_⟩
    walk_at "rd"
    refine ⟨e, T.c_Incoming, dx2, _, _, rfl, he2, T.W_Incoming.cl, T.na_ahead, iF_ah _ _, ?_⟩
    refine ⟨d, _, rfl, DGet.k (k := .inl k2) hd2, ?_⟩
    walk_at "rd"
    refine rd_ite (fun h1 => ?_) (fun h1 => ?_)
    · obtain ⟨v, hv⟩ : ∃ v, valV m2 (.inl k2) = some v := by
        cases z : valV m2 (.inl k2) with
        | none =>
          rw [z] at h1
          cases h1
        | some x => exact ⟨x, rfl⟩
      have hlt := drop_lt hv
      refine ⟨fun σ' H' => ∃ m', m' < μ ∧ ∃ k2 m2 acc, σ' = [some (.ref e), some (.int n), some y, some (.ref L)] ∧ Fr [e, d] H H' ∧ IncAt T.c_Incoming H' e d k2 m2 ∧ H' L = some (.lst acc) ∧ m' = m2.length ∧ m2.length + acc.length ≤ 1001 ∧ ((drain k2 m2).1, (drain k2 m2).2.1, acc ++ (drain k2 m2).2.2) = drain k m1, fun _ _ h => h, ?_⟩
      walk_at "rd"
      refine ⟨.inl ⟨rfl, _, SqL.of hL2⟩, ?_⟩
      walk_at "rd"
      refine rd_dpop1 ?_
      walk_at "rd"
      refine ⟨e, T.c_Incoming, dx2, _, _, rfl, he2, T.W_Incoming.cl, T.na_ahead, iF_ah _ _, ?_⟩
      refine ⟨d, rfl, isD_k hd2, ?_⟩
      walk_at "rd"
      refine ⟨e, T.c_Incoming, dx2, _, _, rfl, he2, T.W_Incoming.cl, T.na_many, iF_mn _ _, ?_⟩
      refine ⟨m2, .inl k2, v, hd2, rfl, hv, ?_⟩
      walk_at "rd"
      have hL3 : (upd H2 d (.dK (dropK m2 (.inl k2)))) L = some (.lst acc) := (upd_ne nLd).trans hL2
      refine rd_append hL3 (small1000 (by omega)) ?_
      dsimp only
      walk_at "rd"
      refine rd_sfldaug ?_
      walk_at "rd"
      have he3 : (upd (upd H2 d (.dK (dropK m2 (.inl k2)))) L (.lst (acc ++ [v]))) e = some (.ins T.c_Incoming dx2 (iF k2 d)) := (upd_ne nLe.symm).trans ((upd_ne ned).trans he2)
      refine ⟨e, T.c_Incoming, dx2, _, _, rfl, he3, T.W_Incoming.cl, T.na_many, iF_mn _ _, ?_⟩
      walk_at "rd"
      refine ⟨_, _, rfl, rfl, dx2, _, he3, (by show 2 < 1000; decide), ?_⟩
      rw [iF_put]
      refine ⟨_, by omega, k2 + 1, dropK m2 (.inl k2), acc ++ [v], rfl, fun b o nb eb => ?_, ⟨⟨dx2, upd_same⟩, ?_⟩, ?_, rfl, by rw [List.length_append]; simp; omega, ?_⟩
      · have nbe : b ≠ e := fun z => nb (by simp [z])
        have nbd : b ≠ d := fun z => nb (by simp [z])
        rw [upd_ne nbe, upd_ne (ne_of_none eb nL0), upd_ne nbd]
        exact f2 b o nb eb
      · rw [upd_ne ned.symm, upd_ne nLd.symm]
        exact upd_same
      · rw [upd_ne nLe]
        exact upd_same
      · rw [← hdr, drain_yes hv]
        simp
    · have hv : valV m2 (.inl k2) = none := by
        cases z : valV m2 (.inl k2) with
        | none => rfl
        | some x =>
          rw [z] at h1
          cases h1
      rw [drain_no hv] at hdr
      simp only [List.append_nil] at hdr
      walk_at "rd"
      rw [← hdr] at q
      exact q L H2 f2 nL0 hi2 hL2
theorem ok_istate (T : Tx K mg) (B : Bk K mg T) : FnOk P w K mg base CX0 2 B.Incoming_state.f B.Incoming_state.fd ["self"] (spIState T.c_Incoming) := by
  have G_Incoming_held := ok_held (P := P) (w := w) (base := base) T B
  refine B.Incoming_state.F.ok sc_Incoming_state (fun vs H Q E h => ?_) (fun cdv A outer s H vs Q E hr h => ?_)
  · obtain ⟨e, d, k, m, ns, rfl, _⟩ := h
    rfl
  · obtain ⟨e, d, k, m, ns, rfl, hi, en, hn, q⟩ := h
    obtain ⟨⟨dx, he⟩, hd⟩ := id hi
    refine ⟨_, (pss_one (ps_ret (pe_tup (pa_cons (pe_fld (pv 0) rfl) (pa_cons (pe_callTy call_tuple_of (by rfl) T.b_tuple (by decide +kernel) (pa_cons (pe_lc (own := [("number", 1)]) (g := gName 1) rfl sc_Incoming_state.nd (pi_tup (pe_meth0 (pv 0) T.W_Incoming.cl ⟨B.Incoming_held.a, B.Incoming_held.i, B.Incoming_held.F.kp⟩ G_Incoming_held (hr.mono (by decide)) B.Incoming_held.b .nil pass0)) (blkOk_by (own := [("number", 1)]) (N := ["self", "number"]) (sc := defScope s_Incoming_state) (by decide +kernel)) (fun _ _ _ _ _ => pg_name (i := 1) sc_Incoming_state.nd rfl (Or.inl rfl)) (fun _ _ _ _ _ => pts_nil) (fun _ _ _ _ _ => (pe_tup (pa_cons (pv 1) (pa_cons (pe_dget (hu_of hr) (show PE _ _ (tFld K (tVar 0) "ahead") from pe_fld (pv 0) rfl) (pv 1) (fun _ _ => rfl)) pa_nil))))) pa_nil)) pa_nil))))), ?_⟩
    walk_at "rd"
    refine ⟨e, T.c_Incoming, dx, _, _, rfl, he, T.W_Incoming.cl, T.na_many, iF_mn _ _, ?_⟩
    walk_at "rd"
    show iTup _ _ _ _ _
    refine rd_itup ?_
    refine rd_meth ?_
    walk_at "rd"
    refine ⟨e, dx, _, rfl, he, rfl, ?_⟩
    walk_at "rd"
    refine ⟨e, d, k, m, ns, rfl, hi, en, fun t ns' H1 s1 nt ht hpm hpw => ?_⟩
    generalize hps : (ns'.map fun n => (n, (valV m (.inl n)).getD .non)) = ps
    have epn : ps.map (·.1) = ns' := by
      rw [← hps, List.map_map]
      conv => rhs; rw [← List.map_id ns']
      exact List.map_congr_left fun _ _ => rfl
    have hln : ns'.length = ns.length := hpm.length_eq
    have hlp : ps.length = ns'.length := by rw [← hps, List.length_map]
    refine ⟨t, rfl, ⟨_, SqT.of ht⟩, fun D hD => lc_tup (K := K) (a := t) (xs := ns'.map V.int)
      (fun i H2 => Same H1 H2 ∧ ∃ ts, H2 D = some (.lst (ts.map V.ref)) ∧ PrsAt H2 ts (ps.take i)) ⟨same_new hD, [], upd_same, PrsAt.nil⟩ (fun i H2 _ hh => SqT.of (hh.1 _ _ ht)) ?_ ?_⟩
    · rintro i y H2 hi2 ⟨hs, ts, hacc, hpr⟩
      obtain ⟨n, hn2, rfl⟩ := mapint_get hi2
      obtain ⟨v, hv⟩ := key_there en (hpm.mem_iff.mp (List.mem_of_getElem? hn2))
      have hpi : ps[i]? = some (n, v) := by
        rw [← hps, List.getElem?_map, hn2, Option.map_some, hv]
        rfl
      have il := (List.getElem?_eq_some_iff.mp hn2).1
      refine ⟨rfl, ?_⟩
      refine rd_tyes ?_
      refine rd_yes rfl ?_
      walk_at "rd"
      refine ⟨e, T.c_Incoming, dx, _, _, rfl, hs _ _ (s1 _ _ he), T.W_Incoming.cl, T.na_ahead, iF_ah _ _, ?_⟩
      walk_at "rd"
      refine ⟨d, v, rfl, by rw [← hv]; exact DGet.k (k := .inl n) (hs _ _ (s1 _ _ hd)), ?_⟩
      refine rd_disp rfl fun t1 nt1 => ?_
      have hacc2 : (upd H2 t1 (.tup [.int n, v])) D = some (.lst (ts.map V.ref)) := (upd_ne (ne_of_none hacc nt1)).trans hacc
      have s2 := same_new (o := .tup [.int n, v]) nt1
      have nDt : t1 ≠ D := (ne_of_none hacc nt1).symm
      have htl := hpr.1
      rw [List.length_take] at htl
      refine ⟨_, hacc2, ?_, fun b o eb => ?_, ts ++ [t1], ?_, ?_⟩
      · refine Nat.lt_of_le_of_lt (?_ : _ ≤ 1000) (by decide)
        rw [List.length_map]
        omega
      · rw [upd_ne (ne_of_none eb hD)]
        exact s2 _ _ (hs b o eb)
      · rw [upd_same, List.map_append]
        rfl
      · rw [take_snoc hpi]
        refine (hpr.same fun a xs ha => ?_).snoc ?_
        · rw [upd_ne (ne_of ha hacc (by intro z; cases z))]
          exact s2 _ _ ha
        · rw [upd_ne nDt]
          exact upd_same
    · rintro H2 ⟨s2, ts, hacc, hpr⟩
      rw [List.length_map, ← hlp, List.take_length] at hpr
      walk_at "rd"
      refine ⟨D, _, rfl, .inl ⟨SqL.of hacc, fun u nu => ?_⟩⟩
      have s12 := s1.trans s2
      have s3 := same_new (o := .tup (ts.map V.ref)) nu
      walk_at "rd"
      refine rd_disp rfl fun t2 nt2 => ?_
      have s4 := same_new (o := .tup [.int k, .ref u]) nt2
      refine q t2 u ts ps _ (s12.trans (s3.trans s4)) ((s12.trans s3).free nt2) (s12.free nu) upd_same ((upd_ne (ne_of_none upd_same nt2)).trans upd_same) (hpr.same (KT.same (s3.trans s4))) (by rw [epn]; exact hpm) (by rw [epn]; exact hpw) fun x hx => ?_
      rw [← hps] at hx
      obtain ⟨n, hn2, rfl⟩ := List.mem_map.mp hx
      obtain ⟨v, hv⟩ := key_there en (hpm.mem_iff.mp hn2)
      show valV m (.inl n) = some ((valV m (.inl n)).getD .non)
      rw [hv]
      rfl
end
end Mw

/-! X6 -/
namespace Mw
open PySem L2
def HandAt (p l : Addr) (H : Hp) : Prop := ∃ (ns : List Int) (i : Nat) (c z t : Int), H p = some (.lst [.ref l, .int (i : Nat), .int c, .int z, .int t]) ∧ l ≠ p ∧ H l = some (.lst (ns.map V.int)) ∧ 0 ≤ c ∧ 0 ≤ z ∧ z < 2147483647
theorem HandAt.keep {p l : Addr} {H H' : Hp} (s : Same H H') (h : HandAt p l H) : HandAt p l H' := by
  obtain ⟨ns, i, c, z, t, h1, h2, h3, r⟩ := h
  exact ⟨ns, i, c, z, t, s _ _ h1, h2, s _ _ h3, r⟩
theorem HandAt.there {p l : Addr} {H : Hp} (h : HandAt p l H) : ∃ u, H p = some u := by
  obtain ⟨ns, i, c, z, t, h1, _⟩ := h
  exact ⟨_, h1⟩
theorem HandAt.there2 {p l : Addr} {H : Hp} (h : HandAt p l H) : ∃ u, H l = some u := by
  obtain ⟨ns, i, c, z, t, h1, h2, h3, _⟩ := h
  exact ⟨_, h3⟩
def spHand (K : PySem.W.Frag) : Sp := fun vs H Q _ => ∃ (a : Addr) (ns : List Int), vs = [.ref a] ∧ SqL K H a (ns.map V.int) ∧ ∀ p l H', H p = none → H l = none → HandAt p l H' → Same H H' → Q (.ref p) H'
def spTake : Sp := fun vs H Q _ => ∃ (p l : Addr) (m : Int), vs = [.ref p, .int m] ∧ 1 ≤ m ∧ m < 1073741824 ∧ HandAt p l H ∧ ∀ r H', 0 ≤ r → r < m → HandAt p l H' → Keep p H H' → Q (.int r) H'
theorem HandAt.ne {p l0 q : Addr} {H : Hp} (h : HandAt p l0 H) (n : H q = none) : q ≠ p := by
  obtain ⟨u, hu⟩ := h.there
  exact (ne_of_none hu n).symm
theorem HandAt.put {p l0 l : Addr} {H : Hp} {o : HO} (h : HandAt p l0 H) (n1 : l ≠ p) (n2 : l ≠ l0) : HandAt p l0 (upd H l o) := by
  obtain ⟨ns, i, c, z, t, h1, h2, h3, r⟩ := h
  exact ⟨ns, i, c, z, t, (upd_ne n1.symm).trans h1, h2, (upd_ne n2.symm).trans h3, r⟩
def spPick : Sp := fun vs H Q _ => ∃ (p l0 a : Addr) (xs : List V), vs = [.ref p, .ref a] ∧ At p H a (.lst xs) ∧ 1 ≤ xs.length ∧ xs.length ≤ 1000 ∧ HandAt p l0 H ∧ ∀ (j : Nat) x H', xs[j]? = some x → HandAt p l0 H' → Keep p H H' → Q x H'
/-- the hand is a list: what stays but it, tuples too -/
theorem HandAt.fk {p l : Addr} {H H' : Hp} (h : HandAt p l H) (k : Keep p H H') : FK [p] H H' := by
  obtain ⟨ns, i, c, z, t, h1, _⟩ := h
  exact ⟨fun b o nb e => k b o (by simpa using nb) e, fun a xs e => k a _ (ne_of e h1 (fun z => by cases z)) e⟩
section
variable {P : Program} {w : World} {K : PySem.W.Frag} {mg : Str → Option Value} {base : Heap}
local macro_rules | `(tactic| walk_at "rd") => `(tactic| (repeat (first
  | ((with_reducible refine' rd_var ?h0 ?_); (case h0 => rfl))
  | with_reducible refine rd_c ?_
  | with_reducible refine rd_op ?_
  | with_reducible refine rd_nil ?_
  | with_reducible refine rd_cons ?_
  | with_reducible refine rd_tup ?_
  | with_reducible refine rd_lst ?_
  | with_reducible refine rd_ifs ?_
  | with_reducible refine rd_seq ?_
  | with_reducible refine rd_next ?_
  | with_reducible refine rd_ret ?_
  | with_reducible refine rd_asg ?_
  | ((with_reducible refine' rd_gset ?hs ?_); (case hs => ((simp only [L2.start, List.map_cons, List.map_nil, List.length_cons, List.length_nil, List.cons_append, List.nil_append, List.set_cons_zero, List.set_cons_succ, Nat.reduceAdd, Nat.reduceSub, Nat.zero_add, List.reduceReplicate]); rfl)))
  | with_reducible refine rd_drop ?_
  | with_reducible refine rd_test ?_
  | with_reducible refine rd_B ?_
  | with_reducible refine rd_bl ?_
  | with_reducible refine rd_blP ?_
  | with_reducible refine rd_andV ?_
  | with_reducible refine rd_orV ?_
  | with_reducible refine rd_notV ?_
  | with_reducible refine rd_and ?_
  | with_reducible refine rd_or ?_
  | with_reducible refine rd_not ?_
  | with_reducible refine rd_chain ?_
  | with_reducible refine rd_dput ?_
  | with_reducible refine rd_dget ?_
  | with_reducible refine rd_cb ?_
  | with_reducible refine rd_call ?_
  | with_reducible refine rd_un ?_
  | with_reducible refine rd_sl ?_
  | with_reducible refine rd_nopart ?_
  | with_reducible refine rd_part ?_
  | with_reducible refine rd_intP ?_
  | with_reducible refine rd_rU ?_
  | with_reducible refine rd_fld ?_
  | with_reducible refine rd_eqI ?_
  | with_reducible refine rd_neI ?_
  | with_reducible refine rd_mko ?_
  | with_reducible refine rd_bm ?_
  | with_reducible refine rd_gsub ?_
  | with_reducible refine rd_i0 ?_)))
theorem ok_law_hand (T : Tx K mg) (B : Bk K mg T) : FnOk P w K mg base CX0 1 B.law_hand.f B.law_hand.fd ["script"] (spHand K) := by
  refine B.law_hand.F.ok sc_law_hand (fun vs H Q E h => ?_) (fun cdv A outer s H vs Q E hr h => ?_)
  · obtain ⟨a, ns, rfl, _⟩ := h
    rfl
  · obtain ⟨a, ns, rfl, ha, q⟩ := h
    refine ⟨_, (pss_one (ps_ret (pe_lst (pa_cons (pe_callTy call_list_of (by rfl) T.b_list (by decide +kernel) (pa_cons (pv 0) pa_nil)) (pa_cons pe_int (pa_cons pe_int (pa_cons pe_int (pa_cons pe_int pa_nil)))))))), ?_⟩
    walk_at "rd"
    refine ⟨a, _, rfl, .inl ha, fun l hl => ?_⟩
    walk_at "rd"
    refine rd_disp rfl fun p hp => ?_
    have n1 : l ≠ p := ne_of_none upd_same hp
    have s1 := (same_new (o := .lst (ns.map V.int)) hl).trans (same_new (o := .lst [.ref l, .int 0, .int 0, .int 1, .int 0]) hp)
    exact q p l _ ((same_new (o := .lst (ns.map V.int)) hl).free hp) hl ⟨ns, 0, 0, 1, 0, upd_same, n1, (upd_ne n1).trans upd_same, Int.le_refl 0, by decide, by decide⟩ s1
theorem ok_law_take (T : Tx K mg) (B : Bk K mg T) : FnOk P w K mg base CX0 1 B.law_take.f B.law_take.fd ["hand", "many"] spTake := by
  refine B.law_take.F.ok sc_law_take (fun vs H Q E h => ?_) (fun cdv A outer s H vs Q E hr h => ?_)
  · obtain ⟨p, l, m, rfl, _⟩ := h
    rfl
  · obtain ⟨p, l, m, rfl, h1, h2, ⟨ns, i, c, z, t, hp, hlp, hl, hc, hz0, hz1⟩, q⟩ := h
    refine ⟨_, (pss_cons (ps_asg (pe_op op_add (pe_ix ix_list (pv 0) pe_int (fun _ _ => rfl)) pe_int) (pg_sub (pv 0) pe_int set_list))
      (C8.pss_cut (ps_if (PW.pt (pw_and (pt_cmpR op_eq (pe_ix ix_list (pv 0) pe_int (fun _ _ => rfl)) pe_int (nomark _)) (pw_and1 (pt_cmpR op_lt (pe_ix ix_list (pv 0) pe_int (fun _ _ => rfl)) (pe_callB call_len_seq (by rfl) T.b_len (by decide +kernel) (pa_cons (pe_ix ix_list (pv 0) pe_int (fun _ _ => rfl)) pa_nil)) (nomark _))))) (pss_cons (ps_set (i := 2) sc_law_take.nd rfl (Or.inl rfl) (pe_callTy call_int1 (by rfl) T.b_int (by decide +kernel) (pa_cons (pe_ix ix_list (pe_ix ix_list (pv 0) pe_int (fun _ _ => rfl)) (pe_ix ix_list (pv 0) pe_int (fun _ _ => rfl)) (fun _ _ => rfl)) pa_nil)))
      (pss_cons (ps_asg (pe_op op_add (pe_ix ix_list (pv 0) pe_int (fun _ _ => rfl)) pe_int) (pg_sub (pv 0) pe_int set_list))
      (pss_one (ps_if (pt_cmpR op_ge (pv 2) (pe_op op_pow pe_int pe_int) (nomark _)) (pss_one (ps_asg (pv 2) (pg_sub (pv 0) pe_int set_list))) (pss_one (ps_asg (pe_op op_mod (pe_callTy call_int1 (by rfl) T.b_int (by decide +kernel) (pa_cons (pe_op op_add (pe_op op_add (pe_op op_mul (pe_ix ix_list (pv 0) pe_int (fun _ _ => rfl)) pe_int) (pe_op op_mod (pe_callTy call_int1 (by rfl) T.b_int (by decide +kernel) (pa_cons (pv 2) pa_nil)) pe_int)) pe_int) pa_nil)) pe_int) (pg_sub (pv 0) pe_int set_list))))))) pss_nil)
      (C8.pss_cut (ps_if (pt_cmpR op_gt (pe_ix ix_list (pv 0) pe_int (fun _ _ => rfl)) pe_int (nomark _)) (pss_cons (ps_set (i := 3) sc_law_take.nd rfl (Or.inl rfl) (pe_op op_modN (pe_callTy call_int1 (by rfl) T.b_int (by decide +kernel) (pa_cons (pe_ix ix_list (pv 0) pe_int (fun _ _ => rfl)) pa_nil)) (pv 1)))
      (pss_cons (ps_asg (pe_op op_fdivN (pe_callTy call_int1 (by rfl) T.b_int (by decide +kernel) (pa_cons (pe_ix ix_list (pv 0) pe_int (fun _ _ => rfl)) pa_nil)) (pv 1)) (pg_sub (pv 0) pe_int set_list))
      (pss_one (ps_ret (pv 3))))) pss_nil)
      (pss_cons (ps_asg (pe_op op_mod (pe_callTy call_int1 (by rfl) T.b_int (by decide +kernel) (pa_cons (pe_op op_add (pe_op op_mul (pe_ix ix_list (pv 0) pe_int (fun _ _ => rfl)) pe_int) (pe_op op_mul pe_int (pe_ix ix_list (pv 0) pe_int (fun _ _ => rfl)))) pa_nil)) pe_int) (pg_sub (pv 0) pe_int set_list))
      (pss_cons (ps_set (i := 4) sc_law_take.nd rfl (Or.inl rfl) (pe_op op_mod (pe_callTy call_int1 (by rfl) T.b_int (by decide +kernel) (pa_cons (pe_op op_mul (pe_ix ix_list (pv 0) pe_int (fun _ _ => rfl)) (pe_op op_add (pe_op op_fdiv (pe_ix ix_list (pv 0) pe_int (fun _ _ => rfl)) pe_int) pe_int)) pa_nil)) pe_int))
      (pss_cons (ps_set (i := 4) sc_law_take.nd rfl (Or.inl rfl) (pe_op op_mod (pe_callTy call_int1 (by rfl) T.b_int (by decide +kernel) (pa_cons (pe_op op_mul (pv 4) (pe_op op_add (pe_op op_fdiv (pv 4) pe_int) pe_int)) pa_nil)) pe_int))
      (pss_one (ps_ret (pe_op op_modN (pe_callTy call_int1 (by rfl) T.b_int (by decide +kernel) (pa_cons (pe_op op_fdiv (pv 4) pe_int) pa_nil)) (pv 1)))))))))), ?_⟩
    walk_at "rd"
    refine rd_ixL hp rfl ?_
    walk_at "rd"
    refine rd_setL hp rfl ?_
    have nat1 : ∀ k : Nat, (k : Int) + 1 = ((k + 1 : Nat) : Int) := fun k => by omega
    have l1 : (upd H p (.lst [.ref l, .int (i : Nat), .int c, .int z, .int (t + 1)])) l = some (.lst (ns.map V.int)) := (upd_ne hlp).trans hl
    -- behind the first if: the hand, whatever was taken
    refine ⟨fun σ1 H1 => ∃ (i1 : Nat) (c1 z1 : Int) (u : Option V), σ1 = [some (.ref p), some (.int m), u, none, none] ∧ H1 p = some (.lst [.ref l, .int (i1 : Nat), .int c1, .int z1, .int (t + 1)]) ∧ H1 l = some (.lst (ns.map V.int)) ∧ 0 ≤ c1 ∧ 0 ≤ z1 ∧ z1 < 2147483647 ∧ Keep p H H1, ?_, ?_⟩
    · walk_at "rd"
      refine rd_ixL upd_same rfl ?_
      walk_at "rd"
      refine rd_ite (fun h3 => ?_) (fun h3 => ?_)
      · walk_at "rd"
        refine rd_ixL upd_same rfl ?_
        walk_at "rd"
        refine rd_ixL upd_same rfl ?_
        refine ⟨l, _, rfl, .inl (SqL.of l1), ?_⟩
        walk_at "rd"
        refine rd_ite (fun h4 => ?_) (fun h4 => ?_)
        · have hi : i < ns.length := by
            simp only [decide_eq_true_eq, List.length_map] at h4
            omega
          walk_at "rd"
          refine rd_ixL upd_same rfl ?_
          walk_at "rd"
          refine rd_ixL upd_same rfl ?_
          walk_at "rd"
          refine rd_ixL (v := .int ns[i]) l1 (atI_nat (by simp [hi])) ?_
          refine .inl ⟨_, rfl, ?_⟩
          walk_at "rd"
          refine rd_ixL upd_same rfl ?_
          walk_at "rd"
          refine rd_setL upd_same rfl ?_
          walk_at "rd"
          refine rd_iC ⟨by decide, by decide, by decide⟩ ?_
          walk_at "rd"
          refine rd_ite (fun h5 => ?_) (fun h5 => ?_)
          · walk_at "rd"
            refine rd_setL upd_same rfl ?_
            refine ⟨i + 1, ns[i], z, _, rfl, by rw [upd_same, ← nat1]; rfl, ?_, ?_, hz0, hz1, ?_⟩
            · rw [upd_ne hlp, upd_ne hlp]
              exact l1
            · have : (10 : Int) ^ (18 : Int).toNat ≤ ns[i] := by simpa using h5
              have e : (10 : Int) ^ (18 : Int).toNat = 1000000000000000000 := by decide
              omega
            · exact ((Keep.mut.trans Keep.mut).trans Keep.mut)
          · walk_at "rd"
            refine rd_ixL upd_same rfl ?_
            walk_at "rd"
            refine rd_iC (.inl ⟨by omega, by omega⟩) ?_
            walk_at "rd"
            refine .inl ⟨_, rfl, ?_⟩
            walk_at "rd"
            refine rd_iC (show (0 : Int) < 2147483647 by decide) ?_
            walk_at "rd"
            refine .inl ⟨_, rfl, ?_⟩
            walk_at "rd"
            refine rd_iC (show (0 : Int) < 2147483647 by decide) ?_
            walk_at "rd"
            refine rd_setL upd_same rfl ?_
            refine ⟨i + 1, c, _, _, rfl, by rw [upd_same, ← nat1]; rfl, ?_, hc, ?_, ?_, ((Keep.mut.trans Keep.mut).trans Keep.mut)⟩
            · rw [upd_ne hlp, upd_ne hlp]
              exact l1
            · exact Int.emod_nonneg _ (by decide)
            · exact Int.emod_lt_of_pos _ (by decide)
        · exact ⟨i, c, z, _, rfl, upd_same, l1, hc, hz0, hz1, Keep.mut⟩
      · exact ⟨i, c, z, _, rfl, upd_same, l1, hc, hz0, hz1, Keep.mut⟩
    · rintro σ1 H1 ⟨i1, c1, z1, u, rfl, hp1, hl1, hc1, hz1', hz1'', k1⟩
      refine ⟨fun σ2 H2 => σ2 = [some (.ref p), some (.int m), u, none, none] ∧ H2 = H1, ?_, ?_⟩
      · walk_at "rd"
        refine rd_ixL hp1 rfl ?_
        walk_at "rd"
        refine rd_ite (fun h3 => ?_) (fun h3 => ?_)
        · walk_at "rd"
          refine rd_ixL hp1 rfl ?_
          refine .inl ⟨_, rfl, ?_⟩
          walk_at "rd"
          refine rd_iC (show m ≠ 0 by omega) ?_
          walk_at "rd"
          refine rd_ixL hp1 rfl ?_
          refine .inl ⟨_, rfl, ?_⟩
          walk_at "rd"
          refine rd_iC (show m ≠ 0 ∧ m.natAbs < 1073741824 by omega) ?_
          walk_at "rd"
          refine rd_setL hp1 rfl ?_
          walk_at "rd"
          refine q _ _ ?_ ?_ ⟨ns, i1, _, z1, _, upd_same, hlp, (upd_ne hlp).trans hl1, ?_, hz1', hz1''⟩ (k1.trans Keep.mut)
          · rw [Int.fmod_eq_emod_of_nonneg _ (by omega)]
            exact Int.emod_nonneg _ (by omega)
          · rw [Int.fmod_eq_emod_of_nonneg _ (by omega)]
            exact Int.emod_lt_of_pos _ (by omega)
          · rw [Int.fdiv_eq_ediv_of_nonneg _ (by omega)]
            exact Int.ediv_nonneg hc1 (by omega)
        · exact ⟨rfl, rfl⟩
      · rintro σ2 H2 ⟨rfl, rfl⟩
        walk_at "rd"
        refine rd_ixL hp1 rfl ?_
        walk_at "rd"
        refine rd_iC (.inl ⟨by omega, by omega⟩) ?_
        walk_at "rd"
        refine rd_ixL hp1 rfl ?_
        walk_at "rd"
        refine rd_iC (.inl ⟨by omega, by omega⟩) ?_
        walk_at "rd"
        refine .inl ⟨_, rfl, ?_⟩
        walk_at "rd"
        refine rd_iC (show (0 : Int) < 2147483647 by decide) ?_
        walk_at "rd"
        refine rd_setL hp1 rfl ?_
        generalize hz : (z1 * 69621 + 7919 * (t + 1)) % 2147483647 = z2
        have b1 : 0 ≤ z2 := hz ▸ Int.emod_nonneg _ (by decide)
        have b2 : z2 < 2147483647 := hz ▸ Int.emod_lt_of_pos _ (by decide)
        walk_at "rd"
        refine rd_ixL upd_same rfl ?_
        walk_at "rd"
        refine rd_ixL upd_same rfl ?_
        walk_at "rd"
        refine rd_iC (show (0 : Int) < 1009 ∧ (1009 : Int) < 1073741824 by decide) ?_
        walk_at "rd"
        refine rd_iC (.inl ⟨by omega, by omega⟩) ?_
        walk_at "rd"
        refine .inl ⟨_, rfl, ?_⟩
        walk_at "rd"
        refine rd_iC (show (0 : Int) < 2147483647 by decide) ?_
        generalize hn : (z2 * (z2 / 1009 + 69621)) % 2147483647 = n1
        have b3 : 0 ≤ n1 := hn ▸ Int.emod_nonneg _ (by decide)
        have b4 : n1 < 2147483647 := hn ▸ Int.emod_lt_of_pos _ (by decide)
        walk_at "rd"
        refine rd_iC (show (0 : Int) < 2003 ∧ (2003 : Int) < 1073741824 by decide) ?_
        walk_at "rd"
        refine rd_iC (.inl ⟨by omega, by omega⟩) ?_
        walk_at "rd"
        refine .inl ⟨_, rfl, ?_⟩
        walk_at "rd"
        refine rd_iC (show (0 : Int) < 2147483399 by decide) ?_
        walk_at "rd"
        refine rd_iC (show (0 : Int) < 16 ∧ (16 : Int) < 1073741824 by decide) ?_
        refine .inl ⟨_, rfl, ?_⟩
        walk_at "rd"
        refine rd_iC (show m ≠ 0 by omega) ?_
        refine q _ _ ?_ ?_ ⟨ns, i1, c1, z2, _, upd_same, hlp, (upd_ne hlp).trans hl1, hc1, b1, b2⟩ (k1.trans Keep.mut)
        · rw [Int.fmod_eq_emod_of_nonneg _ (by omega)]
          exact Int.emod_nonneg _ (by omega)
        · rw [Int.fmod_eq_emod_of_nonneg _ (by omega)]
          exact Int.emod_lt_of_pos _ (by omega)
theorem ok_law_pick (T : Tx K mg) (B : Bk K mg T) : FnOk P w K mg base CX0 2 B.law_pick.f B.law_pick.fd ["hand", "things"] spPick := by
  have G_law_take := ok_law_take (P := P) (w := w) (base := base) T B
  refine B.law_pick.F.ok sc_law_pick (fun vs H Q E h => ?_) (fun cdv A outer s H vs Q E hr h => ?_)
  · obtain ⟨p, l0, a, xs, rfl, _⟩ := h
    rfl
  · obtain ⟨p, l0, a, xs, rfl, ha, l1, l2, hh, q⟩ := h
    refine ⟨_, (pss_one (ps_ret (pe_ix ix_list (pv 1) (pe_call G_law_take (hr.mono (by decide)) rfl B.law_take.m B.law_take.F.kp B.law_take.b .nil pass0 (pa_cons (pv 0) (pa_cons (pe_callB call_len_seq (by rfl) T.b_len (by decide +kernel) (pa_cons (pv 1) pa_nil)) pa_nil))) (fun _ _ => rfl)))), ?_⟩
    walk_at "rd"
    refine ⟨a, xs, rfl, .inl (SqL.of ha.2), ?_⟩
    walk_at "rd"
    refine ⟨p, l0, _, rfl, by omega, by omega, hh, fun r H' h1 h2 h3 k => ?_⟩
    obtain ⟨j, rfl⟩ : ∃ j : Nat, r = (j : Int) := ⟨r.toNat, by omega⟩
    have hj : j < xs.length := by omega
    have e : xs[j]? = some xs[j] := by simp [hj]
    exact rd_ixL (ha.keep k).2 (atI_nat e) (q j _ H' e h3 k)
end
end Mw

/-! X7 -/
namespace Mw
open PySem L2
def spJ3 (CP : Addr → Prop) : Sp := fun vs H Q _ => ∃ M d x lo hi, vs = [x, .int lo, .int hi] ∧ Dt CP M H d x ∧ Q (.bl (inI lo hi d)) H
mutual
def noDict : PyData → Bool
  | .none | .bool _ | .int _ | .str _ => true
  | .tuple ds => noDictAll ds
  | .list ds => noDictAll ds
  | .dict _ => false
def noDictAll : List PyData → Bool
  | [] => true
  | d :: ds => noDict d && noDictAll ds
end
theorem noDict_get : ∀ {ds : List PyData} {i : Nat} {d : PyData}, noDictAll ds = true → ds[i]? = some d → noDict d = true
  | [], i, d, _, e => by simp at e
  | c :: ds, 0, d, h, e => by
    simp at e
    subst e
    simp only [noDictAll, Bool.and_eq_true] at h
    exact h.1
  | c :: ds, i + 1, d, h, e => by
    simp only [noDictAll, Bool.and_eq_true] at h
    exact noDict_get h.2 (by simpa using e)
mutual
theorem plain_no : ∀ d : PyData, plainD d = true → noDict d = true
  | .none, _ => rfl
  | .bool _, _ => rfl
  | .int _, _ => rfl
  | .str _, _ => rfl
  | .list ds, h => by simp [plainD] at h
  | .dict _, h => by simp [plainD] at h
  | .tuple ds, h => by
    simp only [plainD] at h
    simp only [noDict]
    exact plain_noAll ds h
theorem plain_noAll : ∀ ds : List PyData, plainAll ds = true → noDictAll ds = true
  | [], _ => rfl
  | d :: ds, h => by
    simp only [plainAll, Bool.and_eq_true] at h
    simp only [noDictAll, Bool.and_eq_true]
    exact ⟨plain_no d h.1, plain_noAll ds h.2⟩
end
def spSame (CP : Addr → Prop) (n : Nat) : Sp := fun vs H Q _ => ∃ M d v1 v2, vs = [v1, v2] ∧ noDict d = true ∧ d.depth < n ∧ Dt CP M H d v1 ∧ Dt CP M H d v2 ∧ ∀ H', Same H H' → Q (.bl true) H'
section
variable {P : Program} {w : World} {K : PySem.W.Frag} {mg : Str → Option Value} {base : Heap}
local macro_rules | `(tactic| walk_at "rd") => `(tactic| (repeat (first
  | ((with_reducible refine' rd_var ?h0 ?_); (case h0 => rfl))
  | with_reducible refine rd_c ?_
  | with_reducible refine rd_op ?_
  | with_reducible refine rd_nil ?_
  | with_reducible refine rd_cons ?_
  | with_reducible refine rd_tup ?_
  | with_reducible refine rd_lst ?_
  | with_reducible refine rd_ifs ?_
  | with_reducible refine rd_seq ?_
  | with_reducible refine rd_next ?_
  | with_reducible refine rd_ret ?_
  | with_reducible refine rd_asg ?_
  | ((with_reducible refine' rd_gset ?hs ?_); (case hs => ((simp only [L2.start, List.map_cons, List.map_nil, List.length_cons, List.length_nil, List.cons_append, List.nil_append, List.set_cons_zero, List.set_cons_succ, Nat.reduceAdd, Nat.reduceSub, Nat.zero_add, List.reduceReplicate]); rfl)))
  | with_reducible refine rd_drop ?_
  | with_reducible refine rd_test ?_
  | with_reducible refine rd_B ?_
  | with_reducible refine rd_bl ?_
  | with_reducible refine rd_blP ?_
  | with_reducible refine rd_andV ?_
  | with_reducible refine rd_orV ?_
  | with_reducible refine rd_notV ?_
  | with_reducible refine rd_and ?_
  | with_reducible refine rd_or ?_
  | with_reducible refine rd_not ?_
  | with_reducible refine rd_chain ?_
  | with_reducible refine rd_dput ?_
  | with_reducible refine rd_dget ?_
  | with_reducible refine rd_cb ?_
  | with_reducible refine rd_call ?_
  | with_reducible refine rd_un ?_
  | with_reducible refine rd_sl ?_
  | with_reducible refine rd_nopart ?_
  | with_reducible refine rd_part ?_
  | with_reducible refine rd_intP ?_
  | with_reducible refine rd_rU ?_
  | with_reducible refine rd_fld ?_
  | with_reducible refine rd_eqI ?_
  | with_reducible refine rd_neI ?_
  | with_reducible refine rd_mko ?_
  | with_reducible refine rd_bm ?_
  | with_reducible refine rd_gsub ?_
  | with_reducible refine rd_i0 ?_)))
theorem ok_law_is_integer (T : Tx K mg) (B : Bk K mg T) : FnOk P w K mg base CX0 1 B.law_is_integer.f B.law_is_integer.fd ["thing"] (spJ T.CP isInt) := by
  refine B.law_is_integer.F.ok sc_law_is_integer (fun vs H Q E h => ?_) (fun cdv A outer s H vs Q E hr h => ?_)
  · obtain ⟨p, d, x, rfl, _⟩ := h
    rfl
  · obtain ⟨p, d, x, rfl, hd, q⟩ := h
    refine ⟨_, (pss_one (ps_ret (pe_and (pe_callB call_isi (by rfl) T.b_isinstance (by decide +kernel) (pa_cons (pv 0) (pa_cons (pe_bltn (v := .ty "int") (by rfl) T.b_int (by decide +kernel) rfl) pa_nil))) (pe_one (pe_not (pe_callB call_isi (by rfl) T.b_isinstance (by decide +kernel) (pa_cons (pv 0) (pa_cons (pe_bltn (v := .ty "bool") (by rfl) T.b_bool (by decide +kernel) rfl) pa_nil)))))))), ?_⟩
    walk_at "rd"
    refine dt_isI T.W hd ?_
    walk_at "rd"
    refine rd_ite (fun h1 => ?_) (fun h0 => ?_)
    · walk_at "rd"
      refine dt_isB T.W hd ?_
      walk_at "rd"
      have e : isInt d = !isB d := by cases d <;> simp_all [isI, isB, isInt]
      rw [e] at q
      exact q
    · have e : isInt d = false := by cases d <;> simp_all [isI, isB, isInt]
      rw [e] at q
      exact q
theorem ok_law_is_within (T : Tx K mg) (B : Bk K mg T) : FnOk P w K mg base CX0 2 B.law_is_within.f B.law_is_within.fd ["thing", "least", "most"] (spJ3 T.CP) := by
  have G_law_is_integer := ok_law_is_integer (P := P) (w := w) (base := base) T B
  refine B.law_is_within.F.ok sc_law_is_within (fun vs H Q E h => ?_) (fun cdv A outer s H vs Q E hr h => ?_)
  · obtain ⟨p, d, x, lo, hi, rfl, _⟩ := h
    rfl
  · obtain ⟨p, d, x, lo, hi, rfl, hd, q⟩ := h
    refine ⟨_, (pss_one (ps_ret (pe_and (pe_call G_law_is_integer (hr.mono (by decide)) rfl B.law_is_integer.m B.law_is_integer.F.kp B.law_is_integer.b .nil pass0 (pa_cons (pv 0) pa_nil)) (pe_and (pe_cmpR op_le (pv 1) (pv 0) (nomark _)) (pe_one (pe_cmpR op_le (pv 0) (pv 2) (nomark _))))))), ?_⟩
    walk_at "rd"
    refine ⟨p, d, x, rfl, hd, ?_⟩
    walk_at "rd"
    refine rd_ite (fun h1 => ?_) (fun h0 => ?_)
    · cases d with
      | int i =>
        cases dt_int' hd
        have e : inI lo hi (.int i) = (decide (lo ≤ i) && decide (i ≤ hi)) := rfl
        rw [e] at q
        walk_at "rd"
        refine rd_ite (fun h2 => ?_) (fun h2 => ?_)
        · rw [h2, Bool.true_and] at q
          walk_at "rd"
          exact q
        · rw [h2, Bool.false_and] at q
          exact q
      | _ => cases h1
    · have e : inI lo hi d = false := by cases d <;> simp_all [isInt, inI]
      rw [e] at q
      exact q
theorem same_step (T : Tx K mg) (B : Bk K mg T) {n k : Nat} (hk : 1 ≤ k) (G_law_same : FnOk P w K mg base CX0 k B.law_same.f B.law_same.fd ["actual", "due"] (spSame T.CP n)) :
    FnOk P w K mg base CX0 (k + 1) B.law_same.f B.law_same.fd ["actual", "due"] (spSame T.CP (n + 1)) := by
  have G_law_is_integer := ok_law_is_integer (P := P) (w := w) (base := base) T B
  refine B.law_same.F.ok sc_law_same (fun vs H Q E h => ?_) (fun cdv A outer s H vs Q E hr h => ?_)
  · obtain ⟨p, d, v1, v2, rfl, _⟩ := h
    rfl
  · obtain ⟨p, d, v1, v2, rfl, hp, hdep, t1, t2, q⟩ := h
    refine ⟨_, (pss_cons (ps_if (pt_cmpR op_isN (pv 1) pe_non (nomark _)) (pss_one (ps_ret (pe_cmpR op_isN (pv 0) pe_non (nomark _)))) pss_nil)
      (pss_cons (ps_if (pt_cmpR (is_flag (b := true)) (pv 1) pe_bl (nomark _)) (pss_one (ps_ret (pe_cmpR (is_flag (b := true)) (pv 0) pe_bl (nomark _)))) pss_nil)
      (pss_cons (ps_if (pt_cmpR (is_flag (b := false)) (pv 1) pe_bl (nomark _)) (pss_one (ps_ret (pe_cmpR (is_flag (b := false)) (pv 0) pe_bl (nomark _)))) pss_nil)
      (pss_cons (ps_if (pt_val (pe_callB call_isi (by rfl) T.b_isinstance (by decide +kernel) (pa_cons (pv 1) (pa_cons (pe_bltn (v := .ty "int") (by rfl) T.b_int (by decide +kernel) rfl) pa_nil)))) (pss_one (ps_ret (pe_and (pe_call G_law_is_integer (hr.mono (by omega)) rfl B.law_is_integer.m B.law_is_integer.F.kp B.law_is_integer.b .nil pass0 (pa_cons (pv 0) pa_nil)) (pe_one (pe_cmpR op_eq (pv 0) (pv 1) (nomark _)))))) pss_nil)
      (pss_cons (ps_if (pt_val (pe_callB call_isi (by rfl) T.b_isinstance (by decide +kernel) (pa_cons (pv 1) (pa_cons (pe_bltn (v := .ty "str") (by rfl) T.b_str (by decide +kernel) rfl) pa_nil)))) (pss_one (ps_ret (pe_and (pe_callB call_isi (by rfl) T.b_isinstance (by decide +kernel) (pa_cons (pv 0) (pa_cons (pe_bltn (v := .ty "str") (by rfl) T.b_str (by decide +kernel) rfl) pa_nil))) (pe_one (pe_cmpR op_eq (pv 0) (pv 1) (nomark _)))))) pss_nil)
      (pss_cons (ps_if (PW.pt (pw_or (pt_cmpR op_ne (pe_callB call_isi (by rfl) T.b_isinstance (by decide +kernel) (pa_cons (pv 1) (pa_cons (pe_bltn (v := .ty "tuple") (by rfl) T.b_tuple (by decide +kernel) rfl) pa_nil))) (pe_callB call_isi (by rfl) T.b_isinstance (by decide +kernel) (pa_cons (pv 0) (pa_cons (pe_bltn (v := .ty "tuple") (by rfl) T.b_tuple (by decide +kernel) rfl) pa_nil))) (nomark _)) (pw_or1 (pt_cmpR op_ne (pe_callB call_isi (by rfl) T.b_isinstance (by decide +kernel) (pa_cons (pv 1) (pa_cons (pe_bltn (v := .ty "list") (by rfl) T.b_list (by decide +kernel) rfl) pa_nil))) (pe_callB call_isi (by rfl) T.b_isinstance (by decide +kernel) (pa_cons (pv 0) (pa_cons (pe_bltn (v := .ty "list") (by rfl) T.b_list (by decide +kernel) rfl) pa_nil))) (nomark _))))) (pss_one (ps_ret pe_bl)) pss_nil)
      (pss_cons (ps_if (pt_cmpR op_ne (pe_callB call_len_seq (by rfl) T.b_len (by decide +kernel) (pa_cons (pv 0) pa_nil)) (pe_callB call_len_seq (by rfl) T.b_len (by decide +kernel) (pa_cons (pv 1) pa_nil)) (nomark _)) (pss_one (ps_ret pe_bl)) pss_nil)
      (pss_cons (ps_for PassesOwn.never rfl (RZ.pi_zipA (by rfl) T.b_zip (pa_cons (pv 0) (pa_cons (pv 1) pa_nil))) (pg_tup (by rfl) (pgs_cons (pg_name (i := 2) sc_law_same.nd rfl (Or.inl rfl)) (pgs_cons (pg_name (i := 3) sc_law_same.nd rfl (Or.inl rfl)) pgs_nil))) (pss_one (ps_if (pt_not (pt_val (pe_call G_law_same (hr.mono (by omega)) rfl B.law_same.m B.law_same.F.kp B.law_same.b .nil pass0 (pa_cons (pv 2) (pa_cons (pv 3) pa_nil))))) (pss_one (ps_ret pe_bl)) pss_nil)))
      (pss_one (ps_ret pe_bl)))))))))), ?_⟩
    have q0 := q H (Same.refl H)
    cases d with
    | none =>
      simp only [Dt] at t1 t2
      subst t1 t2
      walk_at "rd"
      refine ⟨rfl, ?_⟩
      walk_at "rd"
      refine rd_yes rfl ?_
      walk_at "rd"
      exact ⟨rfl, q0⟩
    | bool b =>
      simp only [Dt] at t1 t2
      subst t1 t2
      walk_at "rd"
      refine ⟨rfl, ?_⟩
      walk_at "rd"
      refine rd_no rfl ?_
      walk_at "rd"
      refine ⟨rfl, ?_⟩
      walk_at "rd"
      cases b with
      | true =>
        refine rd_yes rfl ?_
        walk_at "rd"
        exact ⟨rfl, q0⟩
      | false =>
        refine rd_no rfl ?_
        walk_at "rd"
        refine ⟨rfl, ?_⟩
        walk_at "rd"
        refine rd_yes rfl ?_
        walk_at "rd"
        exact ⟨rfl, q0⟩
    | int i =>
      have t1' := t1
      have t2' := t2
      simp only [Dt] at t1' t2'
      subst t1' t2'
      walk_at "rd"
      refine ⟨rfl, ?_⟩
      walk_at "rd"
      refine rd_no rfl ?_
      walk_at "rd"
      refine ⟨rfl, ?_⟩
      walk_at "rd"
      refine rd_no rfl ?_
      walk_at "rd"
      refine ⟨rfl, ?_⟩
      walk_at "rd"
      refine rd_no rfl ?_
      walk_at "rd"
      refine dt_isI T.W t2 ?_
      walk_at "rd"
      refine rd_yes rfl ?_
      walk_at "rd"
      refine ⟨p, _, _, rfl, t1, ?_⟩
      walk_at "rd"
      refine rd_yes rfl ?_
      walk_at "rd"
      simpa using q0
    | str i =>
      have t1' := t1
      have t2' := t2
      simp only [Dt] at t1' t2'
      subst t1' t2'
      walk_at "rd"
      refine ⟨rfl, ?_⟩
      walk_at "rd"
      refine rd_no rfl ?_
      walk_at "rd"
      refine ⟨rfl, ?_⟩
      walk_at "rd"
      refine rd_no rfl ?_
      walk_at "rd"
      refine ⟨rfl, ?_⟩
      walk_at "rd"
      refine rd_no rfl ?_
      walk_at "rd"
      refine dt_isI T.W t2 ?_
      walk_at "rd"
      refine rd_no rfl ?_
      walk_at "rd"
      refine dt_isS T.W t2 ?_
      walk_at "rd"
      refine rd_yes rfl ?_
      walk_at "rd"
      refine dt_isS T.W t1 ?_
      walk_at "rd"
      refine rd_yes rfl ?_
      walk_at "rd"
      refine rd_eq rfl ?_
      simpa using q0
    | tuple ds =>
      obtain ⟨a1, xs1, rfl, ha1, hx1⟩ := dt_tup' (id t1)
      obtain ⟨a2, xs2, rfl, ha2, hx2⟩ := dt_tup' (id t2)
      have hl1 := hx1.len
      have hl2 := hx2.len
      walk_at "rd"
      refine ⟨rfl, ?_⟩
      walk_at "rd"
      refine rd_no rfl ?_
      walk_at "rd"
      refine ⟨rfl, ?_⟩
      walk_at "rd"
      refine rd_no rfl ?_
      walk_at "rd"
      refine ⟨rfl, ?_⟩
      walk_at "rd"
      refine rd_no rfl ?_
      walk_at "rd"
      refine dt_isI T.W t2 ?_
      walk_at "rd"
      refine rd_no rfl ?_
      walk_at "rd"
      refine dt_isS T.W t2 ?_
      walk_at "rd"
      refine rd_no rfl ?_
      walk_at "rd"
      refine dt_isT T.W t2 ?_
      walk_at "rd"
      refine dt_isT T.W t1 ?_
      refine rd_ne rfl ?_
      walk_at "rd"
      refine rd_no rfl ?_
      walk_at "rd"
      refine dt_isL T.W t2 ?_
      walk_at "rd"
      refine dt_isL T.W t1 ?_
      refine rd_ne rfl ?_
      walk_at "rd"
      refine rd_no rfl ?_
      walk_at "rd"
      refine ⟨a1, xs1, rfl, .inr (SqT.of ha1), ?_⟩
      walk_at "rd"
      refine ⟨a2, xs2, rfl, .inr (SqT.of ha2), ?_⟩
      walk_at "rd"
      refine rd_no (by simp; omega) ?_
      walk_at "rd"
      refine ⟨_, rfl, _, rfl, a1, a2, xs1, xs2, rfl, .inr ⟨SqT.of ha1, SqT.of ha2, RZ.for_zipT (K := K) (by omega) (fun i σ H1 => Same H H1 ∧ ∃ u1 u2, σ = [some (.ref a1), some (.ref a2), u1, u2]) ⟨Same.refl H, _, _, rfl⟩
        (fun i σ H1 hh => ⟨SqT.of (hh.1 _ _ ha1), SqT.of (hh.1 _ _ ha2)⟩) ?_ ?_⟩⟩
      · rintro i x y U σ H1 hx hy ⟨hs, u1, u2, rfl⟩ hU
        obtain ⟨d1, e1, f1⟩ := hx1.get' hx
        obtain ⟨d2, e2, f2⟩ := hx2.get' hy
        rw [e1] at e2
        cases e2
        have s1 := hs.trans (same_new (o := .tup [x, y]) hU)
        refine ⟨U, _, rfl, SqT.of upd_same, rfl, _, _, rfl, _, _, rfl, rfl, ?_⟩
        walk_at "rd"
        have hpd : noDict d1 = true := noDict_get (by simpa only [noDict] using hp) e1
        have hdd : d1.depth < n := by
          have z := depthAll_get e1
          have e : PyData.depth (.tuple ds) = PyData.depthAll ds + 1 := rfl
          omega
        refine ⟨p, d1, x, y, rfl, hpd, hdd, (f1.s s1), (f2.s s1), fun H2 s2 => ?_⟩
        walk_at "rd"
        refine rd_no rfl ?_
        exact ⟨s1.trans s2, _, _, rfl⟩
      · rintro σ H1 ⟨hs, u1, u2, rfl⟩
        walk_at "rd"
        exact q _ hs
    | list ds =>
      obtain ⟨a1, xs1, rfl, _, ha1, hx1⟩ := dt_lst' (id t1)
      obtain ⟨a2, xs2, rfl, _, ha2, hx2⟩ := dt_lst' (id t2)
      have hl1 := hx1.len
      have hl2 := hx2.len
      walk_at "rd"
      refine ⟨rfl, ?_⟩
      walk_at "rd"
      refine rd_no rfl ?_
      walk_at "rd"
      refine ⟨rfl, ?_⟩
      walk_at "rd"
      refine rd_no rfl ?_
      walk_at "rd"
      refine ⟨rfl, ?_⟩
      walk_at "rd"
      refine rd_no rfl ?_
      walk_at "rd"
      refine dt_isI T.W t2 ?_
      walk_at "rd"
      refine rd_no rfl ?_
      walk_at "rd"
      refine dt_isS T.W t2 ?_
      walk_at "rd"
      refine rd_no rfl ?_
      walk_at "rd"
      refine dt_isT T.W t2 ?_
      walk_at "rd"
      refine dt_isT T.W t1 ?_
      refine rd_ne rfl ?_
      walk_at "rd"
      refine rd_no rfl ?_
      walk_at "rd"
      refine dt_isL T.W t2 ?_
      walk_at "rd"
      refine dt_isL T.W t1 ?_
      refine rd_ne rfl ?_
      walk_at "rd"
      refine rd_no rfl ?_
      walk_at "rd"
      refine ⟨a1, xs1, rfl, .inl (SqL.of ha1), ?_⟩
      walk_at "rd"
      refine ⟨a2, xs2, rfl, .inl (SqL.of ha2), ?_⟩
      walk_at "rd"
      refine rd_no (by simp; omega) ?_
      walk_at "rd"
      refine ⟨_, rfl, _, rfl, a1, a2, xs1, xs2, rfl, .inl ⟨SqL.of ha1, SqL.of ha2, RZ.for_zipL (K := K) (by omega) (fun i σ H1 => Same H H1 ∧ ∃ u1 u2, σ = [some (.ref a1), some (.ref a2), u1, u2]) ⟨Same.refl H, _, _, rfl⟩
        (fun i σ H1 hh => ⟨SqL.of (hh.1 _ _ ha1), SqL.of (hh.1 _ _ ha2)⟩) ?_ ?_⟩⟩
      · rintro i x y U σ H1 hx hy ⟨hs, u1, u2, rfl⟩ hU
        obtain ⟨d1, e1, f1⟩ := hx1.get' hx
        obtain ⟨d2, e2, f2⟩ := hx2.get' hy
        rw [e1] at e2
        cases e2
        have s1 := hs.trans (same_new (o := .tup [x, y]) hU)
        refine ⟨U, _, rfl, SqT.of upd_same, rfl, _, _, rfl, _, _, rfl, rfl, ?_⟩
        walk_at "rd"
        have hpd : noDict d1 = true := noDict_get (by simpa only [noDict] using hp) e1
        have hdd : d1.depth < n := by
          have z := depthAll_get e1
          have e : PyData.depth (.list ds) = PyData.depthAll ds + 1 := rfl
          omega
        refine ⟨p, d1, x, y, rfl, hpd, hdd, (f1.s s1), (f2.s s1), fun H2 s2 => ?_⟩
        walk_at "rd"
        refine rd_no rfl ?_
        exact ⟨s1.trans s2, _, _, rfl⟩
      · rintro σ H1 ⟨hs, u1, u2, rfl⟩
        walk_at "rd"
        exact q _ hs
    | dict ds => simp only [noDict] at hp; cases hp
theorem ok_law_same (T : Tx K mg) (B : Bk K mg T) : ∀ n, FnOk P w K mg base CX0 (n + 1) B.law_same.f B.law_same.fd ["actual", "due"] (spSame T.CP n)
  | 0 => ⟨fun vs H Q E h => by
      obtain ⟨p, d, v1, v2, _, _, hd, _⟩ := h
      exact absurd hd (Nat.not_lt_zero _), fun A outer s H args us vs Q E hr e0 hb r h => by
      obtain ⟨p, d, v1, v2, _, _, hd, _⟩ := h
      exact absurd hd (Nat.not_lt_zero _)⟩
  | n + 1 => same_step T B (by omega) (ok_law_same T B n)
end
end Mw

/-! X8 -/
namespace Mw
open PySem L2
def spOdd (CP : Addr → Prop) : Sp := fun vs H Q _ => ∃ p l0, vs = [.ref p] ∧ HandAt p l0 H ∧ ∀ d x H', Dt CP [p] H' d x → HandAt p l0 H' → Keep p H H' → Q x H'
theorem dt_own {CP : Addr → Prop} {M : List Addr} {H : Hp} {a C dx : Addr} {fs : List (Str × V)} {kv : List (PyData × PyData)} (c : CP C) (n : a ∉ M) (h : H a = some (.ins C dx fs)) : Dt CP M H (.dict kv) (.ref a) := by
  simp only [Dt]
  exact ⟨a, rfl, n, .inr ⟨C, dx, fs, c, h⟩⟩
theorem rd_menuD {K : PySem.W.Frag} {CP : Addr → Prop} {M : List Addr} {H : Hp} {Q : VK} {a : Addr} {xs : List V} {ds : List PyData} {i : Int} (h : H a = some (.lst xs)) (ht : DtAll CP M H ds xs) (h0 : 0 ≤ i) (h1 : i < (ds.length : Int)) (q : ∀ d x, Dt CP M H d x → Q x H) : rIxL K (.ref a) (.int i) H Q := by
  obtain ⟨j, rfl⟩ : ∃ j : Nat, i = (j : Int) := ⟨i.toNat, by omega⟩
  have hj : j < ds.length := by omega
  obtain ⟨x, hx, t⟩ := ht.get (show ds[j]? = some ds[j] by simp [hj])
  exact rd_ixL h (atI_nat hx) (q _ x t)
section
variable {P : Program} {w : World} {K : PySem.W.Frag} {mg : Str → Option Value} {base : Heap}
local macro_rules | `(tactic| walk_at "rd") => `(tactic| (repeat (first
  | ((with_reducible refine' rd_var ?h0 ?_); (case h0 => rfl))
  | with_reducible refine rd_c ?_
  | with_reducible refine rd_op ?_
  | with_reducible refine rd_nil ?_
  | with_reducible refine rd_cons ?_
  | with_reducible refine rd_tup ?_
  | with_reducible refine rd_lst ?_
  | with_reducible refine rd_ifs ?_
  | with_reducible refine rd_seq ?_
  | with_reducible refine rd_next ?_
  | with_reducible refine rd_ret ?_
  | with_reducible refine rd_asg ?_
  | ((with_reducible refine' rd_gset ?hs ?_); (case hs => ((simp only [L2.start, List.map_cons, List.map_nil, List.length_cons, List.length_nil, List.cons_append, List.nil_append, List.set_cons_zero, List.set_cons_succ, Nat.reduceAdd, Nat.reduceSub, Nat.zero_add, List.reduceReplicate]); rfl)))
  | with_reducible refine rd_drop ?_
  | with_reducible refine rd_test ?_
  | with_reducible refine rd_B ?_
  | with_reducible refine rd_bl ?_
  | with_reducible refine rd_blP ?_
  | with_reducible refine rd_andV ?_
  | with_reducible refine rd_orV ?_
  | with_reducible refine rd_notV ?_
  | with_reducible refine rd_and ?_
  | with_reducible refine rd_or ?_
  | with_reducible refine rd_not ?_
  | with_reducible refine rd_chain ?_
  | with_reducible refine rd_dput ?_
  | with_reducible refine rd_dget ?_
  | with_reducible refine rd_cb ?_
  | with_reducible refine rd_call ?_
  | with_reducible refine rd_un ?_
  | with_reducible refine rd_sl ?_
  | with_reducible refine rd_nopart ?_
  | with_reducible refine rd_part ?_
  | with_reducible refine rd_intP ?_
  | with_reducible refine rd_rU ?_
  | with_reducible refine rd_fld ?_
  | with_reducible refine rd_eqI ?_
  | with_reducible refine rd_neI ?_
  | with_reducible refine rd_mko ?_
  | with_reducible refine rd_bm ?_
  | with_reducible refine rd_gsub ?_
  | with_reducible refine rd_i0 ?_)))
theorem ok_law_odd (T : Tx K mg) (B : Bk K mg T) : FnOk P w K mg base CX0 3 B.law_odd.f B.law_odd.fd ["hand"] (spOdd T.CP) := by
  have G_law_take := ok_law_take (P := P) (w := w) (base := base) T B
  have G_Disk_init := ok_disk_init (P := P) (w := w) (base := base) T B
  have G_Incoming_init := ok_inc_init (P := P) (w := w) (base := base) T B
  have G_Outgoing_init := ok_out_init (P := P) (w := w) (base := base) T B
  refine B.law_odd.F.ok sc_law_odd (fun vs H Q E h => ?_) (fun cdv A outer s H vs Q E hr h => ?_)
  · obtain ⟨p, l0, rfl, _⟩ := h
    rfl
  · obtain ⟨p, l0, rfl, hh, q⟩ := h
    refine ⟨_, (pss_cons (ps_set (i := 1) sc_law_odd.nd rfl (Or.inl rfl) (pe_call G_law_take (hr.mono (by decide)) rfl B.law_take.m B.law_take.F.kp B.law_take.b .nil pass0 (pa_cons (pv 0) (pa_cons pe_int pa_nil))))
      (pss_cons (ps_if (pt_cmpR op_lt (pv 1) pe_int (nomark _)) (pss_one (ps_ret (pe_ix ix_list (pe_lst (pa_cons pe_non (pa_cons pe_bl (pa_cons pe_bl (pa_cons pe_str (pa_cons pe_str (pa_cons pe_str pa_nil))))))) (pv 1) (fun _ _ => rfl)))) pss_nil)
      (pss_cons (ps_if (pt_cmpR op_lt (pv 1) pe_int (nomark _)) (pss_one (ps_ret (pe_ix ix_list (pe_lst (pa_cons (pe_tup pa_nil) (pa_cons (pe_lst pa_nil) (pa_cons pe_dnewK (pa_cons (pe_tup (pa_cons pe_int pa_nil)) (pa_cons (pe_lst (pa_cons pe_int (pa_cons pe_int pa_nil))) (pa_cons (pe_tup (pa_cons (pe_tup pa_nil) pa_nil)) pa_nil))))))) (pe_op op_sub (pv 1) pe_int) (fun _ _ => rfl)))) pss_nil)
      (pss_cons (ps_if (pt_cmpR op_lt (pv 1) pe_int (nomark _)) (pss_one (ps_ret (pe_ix ix_list (pe_lst (pa_cons (pe_un un_neg pe_int) (pa_cons pe_int (pa_cons (pe_op op_sub (pe_op op_pow pe_int pe_int) pe_int) (pa_cons (pe_tup (pa_cons pe_int (pa_cons pe_int pa_nil))) (pa_cons (pe_tup (pa_cons pe_bl (pa_cons pe_int pa_nil))) (pa_cons (pe_tup (pa_cons pe_int (pa_cons pe_int (pa_cons pe_int pa_nil)))) pa_nil))))))) (pe_op op_sub (pv 1) pe_int) (fun _ _ => rfl)))) pss_nil)
      (pss_one (ps_ret (pe_ix ix_list (pe_lst (pa_cons (pe_make0 (mk_of_Disk T B.Disk_init) G_Disk_init (hr.mono (by decide)) rfl T.g_Disk B.Disk_init.b .nil pass0) (pa_cons (pe_make0 (mk_of_Incoming T B.Incoming_init) G_Incoming_init (hr.mono (by decide)) rfl T.g_Incoming B.Incoming_init.b .nil pass0) (pa_cons (pe_tup (pa_cons (pe_make0 (mk_of_Outgoing T B.Outgoing_init) G_Outgoing_init (hr.mono (by decide)) rfl T.g_Outgoing B.Outgoing_init.b .nil pass0) pa_nil)) pa_nil)))) (pe_op op_sub (pv 1) pe_int) (fun _ _ => rfl)))))))), ?_⟩
    walk_at "rd"
    refine ⟨p, l0, _, rfl, by decide, by decide, hh, fun r H1 a1 a2 hh1 k1 => ?_⟩
    walk_at "rd"
    refine rd_ite (fun h1 => ?_) (fun h1 => ?_)
    · have h6 : r < 6 := by simpa using h1
      walk_at "rd"
      refine rd_disp rfl fun a ha => ?_
      walk_at "rd"
      have s1 := same_new (o := .lst [.non, .bl true, .bl false, .str "", .str "do", .str "0"]) ha
      refine rd_menuD (CP := T.CP) (M := [p]) upd_same (dtAll_cons dt_non (dtAll_cons dt_bl (dtAll_cons dt_bl (dtAll_cons dt_str (dtAll_cons dt_str (dtAll_cons dt_str dtAll_nil)))))) a1 h6 fun d x t => ?_
      exact q d x _ t (hh1.keep s1) (k1.trans (Keep.same s1))
    · have h6 : 6 ≤ r := by simpa using h1
      walk_at "rd"
      refine rd_ite (fun h2 => ?_) (fun h2 => ?_)
      · have h12 : r < 12 := by simpa using h2
        walk_at "rd"
        refine rd_disp rfl fun p1 n1 => ?_
        walk_at "rd"
        refine rd_disp rfl fun p2 n2 => ?_
        walk_at "rd"
        intro p3 n3
        walk_at "rd"
        refine rd_disp rfl fun p4 n4 => ?_
        walk_at "rd"
        refine rd_disp rfl fun p5 n5 => ?_
        walk_at "rd"
        refine rd_disp rfl fun p6 n6 => ?_
        walk_at "rd"
        refine rd_disp rfl fun p7 n7 => ?_
        walk_at "rd"
        refine rd_disp rfl fun p8 n8 => ?_
        walk_at "rd"
        have t1 := same_new (o := .tup []) n1
        have t2 := same_new (o := .lst []) n2
        have t3 := same_new (o := .dK []) n3
        have t4 := same_new (o := .tup [.int 0]) n4
        have t5 := same_new (o := .lst [.int 0, .int 0]) n5
        have t6 := same_new (o := .tup []) n6
        have t7 := same_new (o := .tup [.ref p6]) n7
        have t8 := same_new (o := .lst [.ref p1, .ref p2, .ref p3, .ref p4, .ref p5, .ref p7]) n8
        have hh2 := hh1.keep t1
        have hh3 := hh2.keep t2
        have hh4 := hh3.keep t3
        have hh5 := hh4.keep t4
        have hh6 := hh5.keep t5
        have hh7 := hh6.keep t6
        have hh8 := hh7.keep t7
        have hh9 := hh8.keep t8
        have u8 := t8
        have u7 := t7.trans u8
        have u6 := t6.trans u7
        have u5 := t5.trans u6
        have u4 := t4.trans u5
        have u3 := t3.trans u4
        have u2 := t2.trans u3
        have u1 := t1.trans u2
        refine rd_menuD (CP := T.CP) (M := [p]) upd_same (ds := [.tuple [], .list [], .dict [], .tuple [.int 0], .list [.int 0, .int 0], .tuple [.tuple []]])
          (dtAll_cons (dt_tup (u2 _ _ upd_same) dtAll_nil)
          (dtAll_cons (dt_lst (by simp [hh2.ne n2]) (u3 _ _ upd_same) dtAll_nil)
          (dtAll_cons (dt_dic (by simp [hh3.ne n3]) (u4 _ _ upd_same))
          (dtAll_cons (dt_tup (u5 _ _ upd_same) (dtAll_cons dt_int dtAll_nil))
          (dtAll_cons (dt_lst (by simp [hh5.ne n5]) (u6 _ _ upd_same) (dtAll_cons dt_int (dtAll_cons dt_int dtAll_nil)))
          (dtAll_cons (dt_tup (u8 _ _ upd_same) (dtAll_cons (dt_tup (u7 _ _ upd_same) dtAll_nil) dtAll_nil)) dtAll_nil))))))
          (by omega) (by show r - 6 < 6; omega) fun d x t => ?_
        exact q d x _ t hh9 (k1.trans (Keep.same u1))
      · have h12 : 12 ≤ r := by simpa using h2
        walk_at "rd"
        refine rd_ite (fun h3 => ?_) (fun h3 => ?_)
        · have h18 : r < 18 := by simpa using h3
          walk_at "rd"
          refine rd_iC ⟨by decide, by decide, by decide⟩ ?_
          walk_at "rd"
          refine rd_disp rfl fun p1 n1 => ?_
          walk_at "rd"
          refine rd_disp rfl fun p2 n2 => ?_
          walk_at "rd"
          refine rd_disp rfl fun p3 n3 => ?_
          walk_at "rd"
          refine rd_disp rfl fun p4 n4 => ?_
          walk_at "rd"
          have t1 := same_new (o := .tup [.int 0, .int 13]) n1
          have t2 := same_new (o := .tup [.bl true, .int 0]) n2
          have t3 := same_new (o := .tup [.int 0, .int 0, .int 0]) n3
          have t4 := same_new (o := .lst [.int (-1), .int 13, .int (10 ^ (20 : Int).toNat - 1), .ref p1, .ref p2, .ref p3]) n4
          have hh2 := hh1.keep t1
          have hh3 := hh2.keep t2
          have hh4 := hh3.keep t3
          have hh5 := hh4.keep t4
          have u3 := t3.trans t4
          have u2 := t2.trans u3
          have u1 := t1.trans u2
          refine rd_menuD (CP := T.CP) (M := [p]) upd_same (ds := [.int (-1), .int 13, .int (10 ^ (20 : Int).toNat - 1), .tuple [.int 0, .int 13], .tuple [.bool true, .int 0], .tuple [.int 0, .int 0, .int 0]])
            (dtAll_cons dt_int (dtAll_cons dt_int (dtAll_cons dt_int
            (dtAll_cons (dt_tup (u2 _ _ upd_same) (dtAll_cons dt_int (dtAll_cons dt_int dtAll_nil)))
            (dtAll_cons (dt_tup (u3 _ _ upd_same) (dtAll_cons dt_bl (dtAll_cons dt_int dtAll_nil)))
            (dtAll_cons (dt_tup (t4 _ _ upd_same) (dtAll_cons dt_int (dtAll_cons dt_int (dtAll_cons dt_int dtAll_nil)))) dtAll_nil))))))
            (by omega) (by show r - 12 < 6; omega) fun d x t => ?_
          exact q d x _ t hh5 (k1.trans (Keep.same u1))
        · have h18 : 18 ≤ r := by simpa using h3
          walk_at "rd"
          refine rd_make ?_
          walk_at "rd"
          intro x dx nx ndx ne
          have S0 : Same H1 (upd (upd H1 dx (.own x)) x (.ins T.c_Disk dx [])) := fun z o e => by
            rw [upd_ne (ne_of_none e nx), upd_ne (ne_of_none e ndx)]
            exact e
          refine ⟨x, dx, rfl, upd_same, fun l H2 f2 nl nlx hd => ⟨rfl, ?_⟩⟩
          have S1 : Same H1 H2 := fun z o e => f2.at (by simpa using ne_of_none e nx) (S0 _ _ e)
          have hh2 := hh1.keep S1
          obtain ⟨⟨dd, hx2⟩, _⟩ := hd
          walk_at "rd"
          refine rd_make ?_
          walk_at "rd"
          intro y dy ny ndy ney
          have S2 : Same H2 (upd (upd H2 dy (.own y)) y (.ins T.c_Incoming dy [])) := fun z o e => by
            rw [upd_ne (ne_of_none e ny), upd_ne (ne_of_none e ndy)]
            exact e
          refine ⟨y, dy, rfl, upd_same, fun l2 H3 f3 nl2 hi => ⟨rfl, ?_⟩⟩
          have S3 : Same H2 H3 := fun z o e => f3 z o (by simpa using ne_of_none e ny) (S2 _ _ e)
          have hh3 := hh2.keep S3
          obtain ⟨⟨dd3, hy3⟩, _⟩ := hi
          walk_at "rd"
          refine rd_make ?_
          walk_at "rd"
          intro z dz nz ndz nez
          have S4 : Same H3 (upd (upd H3 dz (.own z)) z (.ins T.c_Outgoing dz [])) := fun w o e => by
            rw [upd_ne (ne_of_none e nz), upd_ne (ne_of_none e ndz)]
            exact e
          refine ⟨z, dz, rfl, upd_same, fun l3 H4 f4 nl3 ho => ⟨rfl, ?_⟩⟩
          have S5 : Same H3 H4 := fun w o e => f4 w o (by simpa using ne_of_none e nz) (S4 _ _ e)
          have hh4 := hh3.keep S5
          obtain ⟨⟨dd4, hz4⟩, _⟩ := ho
          walk_at "rd"
          refine rd_disp rfl fun p1 n1 => ?_
          walk_at "rd"
          refine rd_disp rfl fun p2 n2 => ?_
          walk_at "rd"
          have t1 := same_new (o := .tup [.ref z]) n1
          have t2 := same_new (o := .lst [.ref x, .ref y, .ref p1]) n2
          have u1 := t1.trans t2
          refine rd_menuD (CP := T.CP) (M := [p]) upd_same (ds := [.dict [], .dict [], .tuple [.dict []]])
            (dtAll_cons (dt_own (.inl rfl) (by simp [hh1.ne nx]) (((S3.trans S5).trans u1) _ _ hx2))
            (dtAll_cons (dt_own (.inr (.inr rfl)) (by simp [hh2.ne ny]) ((S5.trans u1) _ _ hy3))
            (dtAll_cons (dt_tup (t2 _ _ upd_same) (dtAll_cons (dt_own (.inr (.inl rfl)) (by simp [hh3.ne nz]) (u1 _ _ hz4)) dtAll_nil)) dtAll_nil)))
            (by omega) (by show r - 18 < 3; omega) fun d x t => ?_
          exact q d x _ t ((hh4.keep t1).keep t2) (k1.trans (Keep.same (((S1.trans S3).trans S5).trans u1)))
end
end Mw

/-! X9 -/
namespace Mw
open PySem L2
def spLKnown (CP : Addr → Prop) (C : Addr) : Sp := fun vs H Q _ => ∃ a l g xs M d x, vs = [.ref a, x] ∧ OutAt C H a l g xs ∧ Dt CP M H d x ∧ xs.length ≤ 1000 ∧
  (∀ (n : Int) (l' : Addr) (u : Nat) (t : Addr) (H' : Hp), d = .int n → 0 ≤ n → n ≤ g + (xs.length : Nat) → (u : Int) = (if 0 < n - g then n - g else 0) → Fr [a] H H' → H l' = none → OutAt C H' a l' (g + u) (xs.drop u) → t ≠ a → H t = none → H' t = some (.tup [.str "told", .int u]) → Q (.ref t) H') ∧
  ((isNum d = false ∨ ∃ n, d = .int n ∧ g + (xs.length : Nat) < n) → ∀ t H', Same H H' → H t = none → H' t = some (.tup [.str "NoNumber"]) → Q (.ref t) H')
def spLTaken (CP : Addr → Prop) (C : Addr) : Sp := fun vs H Q _ => ∃ e d k m M dn x, vs = [.ref e, x] ∧ IncAt C H e d k m ∧ Dt CP M H dn x ∧ m.length ≤ 1000 ∧
  (∀ (n : Int) (y L t : Addr) (H' : Hp), dn = .int n → 0 ≤ n → n < 4294967296 → Fr [e, d] H H' → H L = none → H y = none → H t = none → L ≠ y → t ≠ L → t ≠ y → IncAt C H' e d (drain k (hear k n (.ref y) m)).1 (drain k (hear k n (.ref y) m)).2.1 → H' y = some (.tup [.str "x", .int 1]) →
    H' L = some (.lst (drain k (hear k n (.ref y) m)).2.2) → H' t = some (.tup [.str "told", .ref L]) → Q (.ref t) H') ∧
  (isNb 4294967296 dn = false → ∀ t H', Same H H' → H t = none → H' t = some (.tup [.str "NoNumber"]) → Q (.ref t) H')
section
variable {P : Program} {w : World} {K : PySem.W.Frag} {mg : Str → Option Value} {base : Heap}
local macro_rules | `(tactic| walk_at "rd") => `(tactic| (repeat (first
  | ((with_reducible refine' rd_var ?h0 ?_); (case h0 => rfl))
  | with_reducible refine rd_c ?_
  | with_reducible refine rd_op ?_
  | with_reducible refine rd_nil ?_
  | with_reducible refine rd_cons ?_
  | with_reducible refine rd_tup ?_
  | with_reducible refine rd_lst ?_
  | with_reducible refine rd_ifs ?_
  | with_reducible refine rd_seq ?_
  | with_reducible refine rd_next ?_
  | with_reducible refine rd_ret ?_
  | with_reducible refine rd_asg ?_
  | ((with_reducible refine' rd_gset ?hs ?_); (case hs => ((simp only [L2.start, List.map_cons, List.map_nil, List.length_cons, List.length_nil, List.cons_append, List.nil_append, List.set_cons_zero, List.set_cons_succ, Nat.reduceAdd, Nat.reduceSub, Nat.zero_add, List.reduceReplicate]); rfl)))
  | with_reducible refine rd_drop ?_
  | with_reducible refine rd_test ?_
  | with_reducible refine rd_B ?_
  | with_reducible refine rd_bl ?_
  | with_reducible refine rd_blP ?_
  | with_reducible refine rd_andV ?_
  | with_reducible refine rd_orV ?_
  | with_reducible refine rd_notV ?_
  | with_reducible refine rd_and ?_
  | with_reducible refine rd_or ?_
  | with_reducible refine rd_not ?_
  | with_reducible refine rd_chain ?_
  | with_reducible refine rd_dput ?_
  | with_reducible refine rd_dget ?_
  | with_reducible refine rd_cb ?_
  | with_reducible refine rd_call ?_
  | with_reducible refine rd_un ?_
  | with_reducible refine rd_sl ?_
  | with_reducible refine rd_nopart ?_
  | with_reducible refine rd_part ?_
  | with_reducible refine rd_intP ?_
  | with_reducible refine rd_rU ?_
  | with_reducible refine rd_fld ?_
  | with_reducible refine rd_eqI ?_
  | with_reducible refine rd_neI ?_
  | with_reducible refine rd_mko ?_
  | with_reducible refine rd_bm ?_
  | with_reducible refine rd_gsub ?_
  | with_reducible refine rd_i0 ?_)))
theorem ok_law_known (T : Tx K mg) (B : Bk K mg T) : FnOk P w K mg base CX0 4 B.law_known.f B.law_known.fd ["out", "number"] (spLKnown T.CP T.c_Outgoing) := by
  have G_Outgoing_known := ok_known (P := P) (w := w) (base := base) T B
  refine B.law_known.F.ok sc_law_known (fun vs H Q E h => ?_) (fun cdv A outer s H vs Q E hr h => ?_)
  · obtain ⟨a, l, g, xs, M, d, x, rfl, _⟩ := h
    rfl
  · obtain ⟨a, l, g, xs, M, d, x, rfl, ho, hd, hl, q, q0⟩ := h
    refine ⟨_, (pss_one (ps_try_many (Wout := fun _ _ _ _ => False) rfl rfl takes0 (fun W pn xe tk _ => (pss_one (ps_ret (pe_tup (pa_cons pe_str (pa_cons (pe_methT (pv 0) T.W_Outgoing.cl ⟨B.Outgoing_known.a, B.Outgoing_known.i, B.Outgoing_known.F.kp⟩ G_Outgoing_known (hr.mono (by decide)) B.Outgoing_known.b (fun σ => passAt tk σ) (pa_cons (pv 1) pa_nil)) pa_nil)))))) (HdsOk.cons ⟨by rfl, by decide, Or.inl T.g_NoNumber⟩ (fun a oe cls d pn hz hf => (pss_one (ps_ret (pe_tup (pa_cons pe_str pa_nil))))) HdsOk.nil))), ?_⟩
    walk_at "rd"
    refine rd_methT ?_
    walk_at "rd"
    obtain ⟨⟨dx, ha⟩, hll⟩ := id ho
    refine ⟨a, dx, _, rfl, ha, rfl, ?_⟩
    walk_at "rd"
    refine ⟨a, l, g, xs, M, d, x, rfl, ho, hd, hl, fun n l' u H1 ed n0 n1 hu f1 nl' ho1 => ?_, fun bad H1 s1 => ?_⟩
    · walk_at "rd"
      refine rd_disp rfl fun t nt => ?_
      obtain ⟨⟨dx1, ha1⟩, hl1⟩ := id ho1
      have nta : t ≠ a := (ne_of_none ha1 nt).symm
      exact q n l' u t _ ed n0 n1 hu (f1.trans (Fr.same (same_new nt))) nl' (ho1.same (same_new nt)) nta (f1.free nt (by simpa using nta)) upd_same
    · refine ⟨true, T.e_NoNumberNoNumber, fun _ z hnz => ?_, fun z => by cases z⟩
      walk_at "rd"
      refine rd_disp rfl fun t nt => ?_
      walk_at "rd"
      exact q0 bad t _ (s1.trans (same_new nt)) (s1.free nt) upd_same
theorem ok_law_taken (T : Tx K mg) (B : Bk K mg T) : FnOk P w K mg base CX0 6 B.law_taken.f B.law_taken.fd ["end", "number"] (spLTaken T.CP T.c_Incoming) := by
  have G_Incoming_take := ok_itake (P := P) (w := w) (base := base) T B
  refine B.law_taken.F.ok sc_law_taken (fun vs H Q E h => ?_) (fun cdv A outer s H vs Q E hr h => ?_)
  · obtain ⟨e, d, k, m, M, dn, x, rfl, _⟩ := h
    rfl
  · obtain ⟨e, d, k, m, M, dn, x, rfl, hi, hd, hm, q, q0⟩ := h
    refine ⟨_, (pss_one (ps_try_many (Wout := fun _ _ _ _ => False) rfl rfl takes0 (fun W pn xe tk _ => (pss_one (ps_ret (pe_tup (pa_cons pe_str (pa_cons (pe_methT (pv 0) T.W_Incoming.cl ⟨B.Incoming_take.a, B.Incoming_take.i, B.Incoming_take.F.kp⟩ G_Incoming_take (hr.mono (by decide)) B.Incoming_take.b (fun σ => passAt tk σ) (pa_cons (pv 1) (pa_cons (pe_tup (pa_cons pe_str (pa_cons pe_int pa_nil))) pa_nil))) pa_nil)))))) (HdsOk.cons ⟨by rfl, by decide, Or.inl T.g_NoNumber⟩ (fun a oe cls d pn hz hf => (pss_one (ps_ret (pe_tup (pa_cons pe_str pa_nil))))) HdsOk.nil))), ?_⟩
    walk_at "rd"
    refine rd_methT ?_
    walk_at "rd"
    obtain ⟨⟨dx, he⟩, hdd⟩ := id hi
    refine ⟨e, dx, _, rfl, he, rfl, ?_⟩
    walk_at "rd"
    refine rd_disp rfl fun y ny => ?_
    have s1 := same_new (o := .tup [.str "x", .int 1]) ny
    have ney : e ≠ y := ne_of_none he ny
    have ndy : d ≠ y := ne_of_none hdd ny
    walk_at "rd"
    refine ⟨e, d, k, m, M, dn, x, .ref y, rfl, hi.same s1, hd.s s1, hm, fun n ed n0 n1 L H1 f1 nL hi1 hL => ?_, fun bad H1 s2 => ?_⟩
    · have hy1 : H1 y = some (.tup [.str "x", .int 1]) := f1 y _ (by simp [ney.symm, ndy.symm]) upd_same
      have nLy : L ≠ y := (ne_of_none upd_same nL).symm
      walk_at "rd"
      refine rd_disp rfl fun t nt => ?_
      have s3 := same_new (o := .tup [.str "told", .ref L]) nt
      have ntL : t ≠ L := (ne_of_none hL nt).symm
      have nty : t ≠ y := (ne_of_none hy1 nt).symm
      obtain ⟨⟨dx1, he1⟩, hd1⟩ := id hi1
      have nte : t ≠ e := (ne_of_none he1 nt).symm
      have ntd : t ≠ d := (ne_of_none hd1 nt).symm
      have nt1 := f1.free nt (by simp [nte, ntd])
      exact q n y L t _ ed n0 n1 ((Fr.same s1).trans (f1.trans (Fr.same s3))) (s1.free nL) ny (s1.free nt1) nLy ntL nty (hi1.same s3) (s3 _ _ hy1) (s3 _ _ hL) upd_same
    · refine ⟨true, T.e_NoNumberNoNumber, fun _ z hnz => ?_, fun z => by cases z⟩
      walk_at "rd"
      refine rd_disp rfl fun t nt => ?_
      walk_at "rd"
      exact q0 bad t _ ((s1.trans s2).trans (same_new nt)) ((s1.trans s2).free nt) upd_same
end
end Mw

/-! T1m -/
/-! Things nested; sizes; where what is none stands. -/
namespace Mw
open PySem L2
def nestL : Nat → PyData
  | 0 => .none
  | n + 1 => .list [nestL n]
def nestT : Nat → PyData → PyData
  | 0, d => d
  | n + 1, d => .tuple [nestT n d]
theorem nestT_pc : ∀ (n k : Nat) (d : PyData), isPc k d = true → isPc (n + k) (nestT n d) = true
  | 0, k, d, h => by
    rw [Nat.zero_add]
    exact h
  | n + 1, k, d, h => by
    have := nestT_pc n k d h
    show (decide (0 < n + 1 + k) && (isPc (n + 1 + k - 1) (nestT n d) && true)) = true
    rw [show n + 1 + k - 1 = n + k by omega, this, decide_eq_true (by omega)]
    rfl
theorem nestT_by : ∀ (n : Nat) (d : PyData), (byD (nestT n d)).length = 2 * n + (byD d).length
  | 0, d => by
    show (byD d).length = _
    omega
  | n + 1, d => by
    have := nestT_by n d
    show ((6 : Int) :: (wh [nestT n d].length ++ byAll [nestT n d])).length = _
    rw [byAll_one, show [nestT n d].length = 1 from rfl, wh_lt (by decide)]
    simp
    omega
theorem isPc_flat {d : PyData} (h : isT d = false) {n m : Nat} (p : isPc n d = true) : isPc m d = true := by
  cases d with
  | tuple ds => cases h
  | list ds => exact p
  | dict ds => exact p
  | none => exact p
  | bool b => exact p
  | int b => exact p
  | str b => exact p
mutual
def pctF : PyData → Bool
  | .str s => (sgn s).all fun c => !decide (c = 37)
  | .tuple ds => pctFAll ds
  | _ => true
def pctFAll : List PyData → Bool
  | [] => true
  | d :: ds => pctF d && pctFAll ds
end
theorem pctF_get : ∀ {ds : List PyData} {i : Nat} {d : PyData}, pctFAll ds = true → ds[i]? = some d → pctF d = true
  | [], i, d, _, e => by simp at e
  | c :: ds, 0, d, h, e => by
    simp only [pctFAll, Bool.and_eq_true] at h
    cases e
    exact h.1
  | c :: ds, i + 1, d, h, e => by
    simp only [pctFAll, Bool.and_eq_true] at h
    exact pctF_get h.2 (by simpa using e)
mutual
theorem isPc_pct : ∀ {n : Nat} (d : PyData), isPc n d = true → pctF d = true
  | n, .none, _ => rfl
  | n, .bool _, _ => rfl
  | n, .int _, _ => rfl
  | n, .list _, _ => rfl
  | n, .dict _, _ => rfl
  | n, .str s, h => by
    have h' : okStr s = true := h
    unfold okStr at h'
    simp only [Bool.and_eq_true, decide_eq_true_eq] at h'
    show (sgn s).all (fun c => !decide (c = 37)) = true
    rw [List.all_eq_true]
    intro c hc
    have := List.all_eq_true.mp h'.2 c hc
    unfold isSign at this
    simp only [Bool.and_eq_true, decide_eq_true_eq] at this
    exact this.2
  | n, .tuple ds, h => by
    simp only [isPc, Bool.and_eq_true, decide_eq_true_eq] at h
    exact isPcAll_pct ds h.2
theorem isPcAll_pct : ∀ {n : Nat} (ds : List PyData), isPcAll n ds = true → pctFAll ds = true
  | n, [], _ => rfl
  | n, d :: ds, h => by
    simp only [isPcAll, pctFAll, Bool.and_eq_true] at h ⊢
    exact ⟨isPc_pct d h.1, isPcAll_pct ds h.2⟩
end
mutual
def smallI : PyData → Bool
  | .int i => decide (i.natAbs < 10 ^ 20 + 1)
  | .str s => decide (s.length < 16384)
  | .tuple ds => decide (ds.length < 16384) && smallIAll ds
  | _ => true
def smallIAll : List PyData → Bool
  | [] => true
  | d :: ds => smallI d && smallIAll ds
end
mutual
theorem by_szd : ∀ d : PyData, smallI d = true → (byD d).length ≤ 12 * szd d
  | .none, _ => by decide
  | .bool b, _ => by
    show [if b then (2 : Int) else 1].length ≤ 12 * 1
    simp
  | .int i, h => by
    have h' : decide (i.natAbs < 10 ^ 20 + 1) = true := h
    have := by_int (of_decide_eq_true h')
    show _ ≤ 12 * 1
    omega
  | .list _, _ => Nat.zero_le _
  | .dict _, _ => Nat.zero_le _
  | .str s, h => by
    have h' : decide (s.length < 16384) = true := h
    have h2 := of_decide_eq_true h'
    have e : (128 : Nat) ^ 2 = 16384 := by decide
    have := wh_len 1 s.length (by rw [e]; exact h2)
    show ((5 : Int) :: (wh s.length ++ sgn s)).length ≤ 12 * (s.length + 1)
    rw [List.length_cons, List.length_append, sgn_len]
    omega
  | .tuple ds, h => by
    simp only [smallI, Bool.and_eq_true, decide_eq_true_eq] at h
    have e : (128 : Nat) ^ 2 = 16384 := by decide
    have h1 := wh_len 1 ds.length (by rw [e]; exact h.1)
    have h2 := byAll_szd ds h.2
    show ((6 : Int) :: (wh ds.length ++ byAll ds)).length ≤ 12 * (szdAll ds + 1)
    rw [List.length_cons, List.length_append]
    omega
theorem byAll_szd : ∀ ds : List PyData, smallIAll ds = true → (byAll ds).length ≤ 12 * szdAll ds
  | [], _ => Nat.zero_le _
  | d :: ds, h => by
    simp only [smallIAll, Bool.and_eq_true] at h
    have h1 := by_szd d h.1
    have h2 := byAll_szd ds h.2
    show (byD d ++ byAll ds).length ≤ 12 * (szd d + szdAll ds)
    rw [List.length_append]
    omega
end
theorem strR_bad {row : List Int} : ∀ {m h e : Nat}, h ≤ row.length → strR row m h = .bad e → e ≤ row.length
  | 0, h, e, l, g => by
    unfold strR at g
    cases g
  | m + 1, h, e, l, g => by
    unfold strR at g
    split at g
    · injection g with g
      omega
    · rename_i b hb
      have hl := (List.getElem?_eq_some_iff.mp hb).1
      split at g
      · cases k : strR row m (h + 1) with
        | bad e2 =>
          rw [k] at g
          injection g with g
          have := strR_bad (by omega) k
          omega
        | ok cs2 e2 =>
          rw [k] at g
          cases g
      · injection g with g
        omega
theorem its_bad {row : List Int} {R : Nat → Rs PyData → Prop} (hR : ∀ h d e, R h (.ok d e) → h < e ∧ e ≤ row.length) (hB : ∀ h e, h ≤ row.length → R h (.bad e) → e ≤ row.length) {m h : Nat} {r : Rs (List PyData)} (a : Its R m h r) : ∀ e, r = .bad e → h ≤ row.length → e ≤ row.length := by
  induction a with
  | nil h =>
    intro e z
    cases z
  | @bad m h e2 x =>
    intro e z l
    injection z with z
    have := hB _ _ l x
    omega
  | @one m h h2 d r x y ih =>
    intro e z l
    have h1 := hR _ _ _ x
    cases r with
    | bad e2 =>
      injection z with z
      subst z
      exact ih _ rfl h1.2
    | ok l2 e2 => cases z
theorem rdB_bad {row : List Int} {R : Option (Nat → Rs PyData → Prop)} (hR : ∀ R', R = some R' → ∀ h d e, R' h (.ok d e) → h < e ∧ e ≤ row.length) (hB : ∀ R', R = some R' → ∀ h e, h ≤ row.length → R' h (.bad e) → e ≤ row.length) {h e : Nat} (l : h ≤ row.length) (a : RdB row R h (.bad e)) : e ≤ row.length := by
  unfold RdB at a
  split at a
  · injection a with a
    omega
  · rename_i c hc
    have hl := (List.getElem?_eq_some_iff.mp hc).1
    split at a
    · injection a with a
      omega
    · split at a
      · cases a
      · split at a
        · injection a with a
          omega
        · rename_i n e' hw
          have := whR_le hw
          split at a
          · cases a
          · split at a
            · split at a
              · injection a with a
                omega
              · cases k : strR row n.toNat e' with
                | bad e2 =>
                  rw [k] at a
                  injection a with a
                  have := strR_bad (by omega) k
                  omega
                | ok cs e2 =>
                  rw [k] at a
                  cases a
            · obtain ⟨R', r, x, y, z⟩ := a
              cases r with
              | bad e2 =>
                injection z with z
                have := its_bad (hR _ x) (hB _ x) y _ rfl (by omega)
                omega
              | ok ds e2 => cases z
theorem rd_bad {row : List Int} : ∀ {n h e : Nat}, h ≤ row.length → Rd row n h (.bad e) → e ≤ row.length
  | 0, h, e, l, a => rdB_bad (R := none) (fun _ z => by cases z) (fun _ z => by cases z) l a
  | n + 1, h, e, l, a => rdB_bad (R := some (Rd row n)) (fun R' z h d e x => by
    cases z
    exact rd_le x) (fun R' z h e l x => by
    cases z
    exact rd_bad l x) l a
end Mw

/-! X10 -/
namespace Mw
open PySem L2
def spDeep (CP : Addr → Prop) : Sp := fun vs H Q _ => ∃ M : List Addr, vs = [] ∧ (∀ m ∈ M, ∃ o, H m = some o) ∧ ∀ v H', Same H H' → Dt CP M H' (nestL 36) v → Q v H'
def spNested (CP : Addr → Prop) : Sp := fun vs H Q _ => ∃ (M : List Addr) (d : PyData) (n : Nat) (x : V), vs = [.int (n : Int), x] ∧ n ≤ 100 ∧ Dt CP M H d x ∧ ∀ v H', Same H H' → Dt CP M H' (nestT n d) v → Q v H'
/-- the law's own judge, of things in which no sign is the one that is none -/
theorem new_out {M : List Addr} {H : Hp} {a : Addr} (hM : ∀ m ∈ M, ∃ o, H m = some o) (n : H a = none) : a ∉ M := fun z => by
  obtain ⟨o, h⟩ := hM a z
  rw [n] at h
  cases h
theorem there_same {M : List Addr} {H H' : Hp} (hM : ∀ m ∈ M, ∃ o, H m = some o) (s : Same H H') : ∀ m ∈ M, ∃ o, H' m = some o := fun m hm => by
  obtain ⟨o, h⟩ := hM m hm
  exact ⟨o, s _ _ h⟩
section
variable {P : Program} {w : World} {K : PySem.W.Frag} {mg : Str → Option Value} {base : Heap}
local macro_rules | `(tactic| walk_at "rd") => `(tactic| (repeat (first
  | ((with_reducible refine' rd_var ?h0 ?_); (case h0 => rfl))
  | with_reducible refine rd_c ?_
  | with_reducible refine rd_op ?_
  | with_reducible refine rd_nil ?_
  | with_reducible refine rd_cons ?_
  | with_reducible refine rd_tup ?_
  | with_reducible refine rd_lst ?_
  | with_reducible refine rd_ifs ?_
  | with_reducible refine rd_seq ?_
  | with_reducible refine rd_next ?_
  | with_reducible refine rd_ret ?_
  | with_reducible refine rd_asg ?_
  | ((with_reducible refine' rd_gset ?hs ?_); (case hs => ((simp only [L2.start, List.map_cons, List.map_nil, List.length_cons, List.length_nil, List.cons_append, List.nil_append, List.set_cons_zero, List.set_cons_succ, Nat.reduceAdd, Nat.reduceSub, Nat.zero_add, List.reduceReplicate]); rfl)))
  | with_reducible refine rd_drop ?_
  | with_reducible refine rd_test ?_
  | with_reducible refine rd_B ?_
  | with_reducible refine rd_bl ?_
  | with_reducible refine rd_blP ?_
  | with_reducible refine rd_andV ?_
  | with_reducible refine rd_orV ?_
  | with_reducible refine rd_notV ?_
  | with_reducible refine rd_and ?_
  | with_reducible refine rd_or ?_
  | with_reducible refine rd_not ?_
  | with_reducible refine rd_chain ?_
  | with_reducible refine rd_dput ?_
  | with_reducible refine rd_dget ?_
  | with_reducible refine rd_cb ?_
  | with_reducible refine rd_call ?_
  | with_reducible refine rd_un ?_
  | with_reducible refine rd_sl ?_
  | with_reducible refine rd_nopart ?_
  | with_reducible refine rd_part ?_
  | with_reducible refine rd_intP ?_
  | with_reducible refine rd_rU ?_
  | with_reducible refine rd_fld ?_
  | with_reducible refine rd_eqI ?_
  | with_reducible refine rd_neI ?_
  | with_reducible refine rd_mko ?_
  | with_reducible refine rd_bm ?_
  | with_reducible refine rd_gsub ?_
  | with_reducible refine rd_i0 ?_)))
theorem ok_law_deep (T : Tx K mg) (B : Bk K mg T) : FnOk P w K mg base CX0 1 B.law_deep.f B.law_deep.fd [] (spDeep T.CP) := by
  refine B.law_deep.F.ok sc_law_deep (fun vs H Q E h => ?_) (fun cdv A outer s H vs Q E hr h => ?_)
  · obtain ⟨M, rfl, _⟩ := h
    rfl
  · obtain ⟨M, rfl, hM, q⟩ := h
    refine ⟨_, (pss_cons (ps_set (i := 0) sc_law_deep.nd rfl (Or.inl rfl) (pe_lst (pa_cons pe_non pa_nil)))
      (pss_cons (ps_for PassesOwn.never rfl (pi_range1 (by rfl) T.b_range (pa_cons pe_int pa_nil)) (pg_name (i := 1) sc_law_deep.nd rfl (Or.inl rfl)) (pss_one (ps_set (i := 0) sc_law_deep.nd rfl (Or.inl rfl) (pe_lst (pa_cons (pv 0) pa_nil)))))
      (pss_one (ps_ret (pv 0))))), ?_⟩
    walk_at "rd"
    refine rd_disp rfl fun l nl => ?_
    have s1 := same_new (o := .lst [.non]) nl
    walk_at "rd"
    refine ⟨35, rfl, by decide, by decide, for_range (lo := 0) (n := 35) (fun i σ H1 => Same H H1 ∧ ∃ (v : V) (u : Option V), σ = [some v, u] ∧ Dt T.CP M H1 (nestL (i + 1)) v)
      ⟨s1, .ref l, none, rfl, dt_lst (new_out hM nl) upd_same (dtAll_cons dt_non dtAll_nil)⟩ ?_ ?_⟩
    · rintro i σ H1 hi ⟨hs, v, u, rfl, hv⟩
      walk_at "rd"
      refine rd_disp rfl fun l2 nl2 => ?_
      have s2 := same_new (o := .lst [v]) nl2
      exact ⟨hs.trans s2, .ref l2, _, rfl, dt_lst (new_out (there_same hM hs) nl2) upd_same (dtAll_cons (hv.s s2) dtAll_nil)⟩
    · rintro σ H1 ⟨hs, v, u, rfl, hv⟩
      walk_at "rd"
      exact q v H1 hs hv
theorem ok_law_nested (T : Tx K mg) (B : Bk K mg T) : FnOk P w K mg base CX0 1 B.law_nested.f B.law_nested.fd ["many", "inner"] (spNested T.CP) := by
  refine B.law_nested.F.ok sc_law_nested (fun vs H Q E h => ?_) (fun cdv A outer s H vs Q E hr h => ?_)
  · obtain ⟨M, d, n, x, rfl, _⟩ := h
    rfl
  · obtain ⟨M, d, n, x, rfl, hn, hd, q⟩ := h
    refine ⟨_, (pss_cons (ps_set (i := 2) sc_law_nested.nd rfl (Or.inl rfl) (pv 1))
      (pss_cons (ps_for PassesOwn.never rfl (pi_range1 (by rfl) T.b_range (pa_cons (pv 0) pa_nil)) (pg_name (i := 3) sc_law_nested.nd rfl (Or.inl rfl)) (pss_one (ps_set (i := 2) sc_law_nested.nd rfl (Or.inl rfl) (pe_tup (pa_cons (pv 2) pa_nil)))))
      (pss_one (ps_ret (pv 2))))), ?_⟩
    walk_at "rd"
    show iRng1 _ _ _ _
    refine rd_rng1 ?_
    walk_at "rd"
    refine ⟨n, rfl, by omega, by omega, ?_⟩
    rw [Int.toNat_natCast]
    refine for_range (lo := 0) (n := n) (fun i σ H1 => Same H H1 ∧ ∃ (v : V) (u : Option V), σ = [some (.int (n : Int)), some x, some v, u] ∧ Dt T.CP M H1 (nestT i d) v)
      ⟨Same.refl H, x, none, rfl, hd⟩ ?_ ?_
    · rintro i σ H1 hi ⟨hs, v, u, rfl, hv⟩
      walk_at "rd"
      refine rd_disp rfl fun t nt => ?_
      have s2 := same_new (o := .tup [v]) nt
      exact ⟨hs.trans s2, .ref t, _, rfl, dt_tup upd_same (dtAll_cons (hv.s s2) dtAll_nil)⟩
    · rintro σ H1 ⟨hs, v, u, rfl, hv⟩
      walk_at "rd"
      exact q v H1 hs hv
end
end Mw

/-! X11 -/
namespace Mw
open PySem L2
def spLIsRow (CP : Addr → Prop) : Sp := fun vs H Q _ => ∃ M d x, vs = [x] ∧ Dt CP M H d x ∧ lenD d ≤ 900000 ∧ ∀ H', Same H H' → Q (.bl (isRowD d)) H'
section
variable {P : Program} {w : World} {K : PySem.W.Frag} {mg : Str → Option Value} {base : Heap}
local macro_rules | `(tactic| walk_at "rd") => `(tactic| (repeat (first
  | ((with_reducible refine' rd_var ?h0 ?_); (case h0 => rfl))
  | with_reducible refine rd_c ?_
  | with_reducible refine rd_op ?_
  | with_reducible refine rd_nil ?_
  | with_reducible refine rd_cons ?_
  | with_reducible refine rd_tup ?_
  | with_reducible refine rd_lst ?_
  | with_reducible refine rd_ifs ?_
  | with_reducible refine rd_seq ?_
  | with_reducible refine rd_next ?_
  | with_reducible refine rd_ret ?_
  | with_reducible refine rd_asg ?_
  | ((with_reducible refine' rd_gset ?hs ?_); (case hs => ((simp only [L2.start, List.map_cons, List.map_nil, List.length_cons, List.length_nil, List.cons_append, List.nil_append, List.set_cons_zero, List.set_cons_succ, Nat.reduceAdd, Nat.reduceSub, Nat.zero_add, List.reduceReplicate]); rfl)))
  | with_reducible refine rd_drop ?_
  | with_reducible refine rd_test ?_
  | with_reducible refine rd_B ?_
  | with_reducible refine rd_bl ?_
  | with_reducible refine rd_blP ?_
  | with_reducible refine rd_andV ?_
  | with_reducible refine rd_orV ?_
  | with_reducible refine rd_notV ?_
  | with_reducible refine rd_and ?_
  | with_reducible refine rd_or ?_
  | with_reducible refine rd_not ?_
  | with_reducible refine rd_chain ?_
  | with_reducible refine rd_dput ?_
  | with_reducible refine rd_dget ?_
  | with_reducible refine rd_cb ?_
  | with_reducible refine rd_call ?_
  | with_reducible refine rd_un ?_
  | with_reducible refine rd_sl ?_
  | with_reducible refine rd_nopart ?_
  | with_reducible refine rd_part ?_
  | with_reducible refine rd_intP ?_
  | with_reducible refine rd_rU ?_
  | with_reducible refine rd_fld ?_
  | with_reducible refine rd_eqI ?_
  | with_reducible refine rd_neI ?_
  | with_reducible refine rd_mko ?_
  | with_reducible refine rd_bm ?_
  | with_reducible refine rd_gsub ?_
  | with_reducible refine rd_i0 ?_)))
theorem ok_law_is_row (T : Tx K mg) (B : Bk K mg T) : FnOk P w K mg base CX0 1 B.law_is_row.f B.law_is_row.fd ["thing"] (spLIsRow T.CP) := by
  refine B.law_is_row.F.ok sc_law_is_row (fun vs H Q E h => ?_) (fun cdv A outer s H vs Q E hr h => ?_)
  · obtain ⟨M, d, x, rfl, _⟩ := h
    rfl
  · obtain ⟨M, d, x, rfl, hd, hl, q⟩ := h
    refine ⟨_, (pss_cons (ps_if (pt_not (pt_val (pe_callB call_isi (by rfl) T.b_isinstance (by decide +kernel) (pa_cons (pv 0) (pa_cons (pe_bltn (v := .ty "tuple") (by rfl) T.b_tuple (by decide +kernel) rfl) pa_nil))))) (pss_one (ps_ret pe_bl)) pss_nil)
      (pss_one (ps_ret (pe_callB (cr_all rfl) (by rfl) T.b_all (by decide +kernel) (pa_cons (pe_lc (own := [("one", 1)]) (g := gName 1) rfl sc_law_is_row.nd (pi_tup (pv 0)) (blkOk_by (own := [("one", 1)]) (N := ["thing", "one"]) (sc := defScope s_law_is_row) (by decide +kernel)) (fun _ _ _ _ _ => pg_name (i := 1) sc_law_is_row.nd rfl (Or.inl rfl)) (fun _ _ _ _ _ => pts_nil) (fun _ _ _ _ _ => (pe_and (pe_callB (id := "isinstance") (r := rIsi K) call_isi (by rfl) T.b_isinstance (by decide +kernel) (pa_cons (pv 1) (pa_cons (pe_bltn (v := .ty "int") (by rfl) T.b_int (by decide +kernel) rfl) pa_nil))) (pe_and (pe_not (pe_callB (id := "isinstance") (r := rIsi K) call_isi (by rfl) T.b_isinstance (by decide +kernel) (pa_cons (pv 1) (pa_cons (pe_bltn (v := .ty "bool") (by rfl) T.b_bool (by decide +kernel) rfl) pa_nil)))) (pe_one (pe_chain op_le op_lt pe_int (pv 1) pe_int)))))) pa_nil))))), ?_⟩
    walk_at "rd"
    refine dt_isT T.W hd ?_
    walk_at "rd"
    cases d with
    | tuple ds =>
      obtain ⟨a, xs, rfl, ha, hx⟩ := dt_tup' hd
      have hlx := hx.len
      have hl' : ds.length ≤ 900000 := hl
      refine rd_no rfl ?_
      walk_at "rd"
      show iTup _ _ _ _ _
      refine rd_itup ?_
      walk_at "rd"
      refine ⟨a, rfl, ⟨xs, SqT.of ha⟩, fun D hD => lc_tup (K := K) (a := a) (xs := xs) (fun i H1 => Same H H1 ∧ H1 D = some (.lst (((ds.take i).map isByte).map V.bl))) ⟨same_new hD, upd_same⟩ (fun i H1 _ hh => SqT.of (hh.1 _ _ ha)) ?_ ?_⟩
      · rintro i y H1 hi ⟨hs, hacc⟩
        obtain ⟨d1, hd1, td1⟩ := hx.get' hi
        have td := td1.s hs
        have fin : ∀ b, b = isByte d1 → (∃ acc, H1 D = some (.lst acc) ∧ acc.length < sizeLine ∧ Same H (upd H1 D (.lst (acc ++ [.bl b]))) ∧ (upd H1 D (.lst (acc ++ [.bl b]))) D = some (.lst (((ds.take (i + 1)).map isByte).map V.bl))) := fun b eb => by
          subst eb
          refine ⟨_, hacc, small' (by rw [List.length_map, List.length_map, List.length_take]; omega), fun b o e => (upd_ne (ne_of_none e hD)).trans (hs b o e), ?_⟩
          rw [upd_same, take_snoc hd1, List.map_append, List.map_append]
          rfl
        refine ⟨rfl, ?_⟩
        refine rd_tyes ?_
        refine rd_yes rfl ?_
        walk_at "rd"
        refine dt_isI T.W td ?_
        walk_at "rd"
        refine rd_ite (fun h1 => ?_) (fun h1 => ?_)
        · walk_at "rd"
          refine dt_isB T.W td ?_
          walk_at "rd"
          refine rd_ite (fun h2 => ?_) (fun h2 => ?_)
          · cases d1 with
            | int j =>
              cases dt_int' td
              walk_at "rd"
              refine rd_ite (fun h3 => ?_) (fun h3 => ?_)
              · walk_at "rd"
                exact fin _ (by show _ = (decide (0 ≤ j) && decide (j < 256)); rw [h3, Bool.true_and])
              · exact fin _ (by show _ = (decide (0 ≤ j) && decide (j < 256)); rw [h3, Bool.false_and])
            | bool b => cases h2
            | _ => cases h1
          · exact fin _ (by cases d1 <;> first | rfl | cases h2 | cases h1)
        · exact fin _ (by cases d1 <;> first | rfl | cases h1)
      · rintro H1 ⟨hs, hacc⟩
        rw [← hlx, List.take_length] at hacc
        refine ⟨D, _, rfl, SqL.of hacc, ?_⟩
        exact q _ hs
    | _ =>
      refine rd_yes rfl ?_
      exact q _ (Same.refl H)
end
end Mw

/-! X12 -/
namespace Mw
open PySem L2
def spFirst (K : PySem.W.Frag) : Sp := fun vs H Q _ => ∃ (a : Addr) (ns : List Int), vs = [.ref a] ∧ SqL K H a (ns.map V.int) ∧ ∀ H', Same H H' → Q (.bl true) H'
/-- the things that were put -/
def ThA (H : Hp) (xs : List V) : Prop := ∀ x ∈ xs, ∃ (t : Addr) (k : Int), x = .ref t ∧ H t = some (.tup [.str "thing", .int k])
theorem ThA.kt {H H' : Hp} {xs : List V} (h : ThA H xs) (k : KT H H') : ThA H' xs := fun x hx => by
  obtain ⟨t, i, e, ht⟩ := h x hx
  exact ⟨t, i, e, k _ _ ht⟩
def thD (xs : List V) (H : Hp) (ds : List PyData) : Prop := DtAll (fun _ => False) [] H ds xs ∧ noDictAll ds = true ∧ PyData.depthAll ds ≤ 1
theorem ThA.dt {CP : Addr → Prop} {M : List Addr} {H : Hp} : ∀ {xs : List V}, ThA H xs → ∃ ds, DtAll CP M H ds xs ∧ noDictAll ds = true ∧ PyData.depthAll ds ≤ 1
  | [], _ => ⟨[], dtAll_nil, rfl, Nat.zero_le _⟩
  | x :: xs, h => by
    obtain ⟨t, k, rfl, ht⟩ := h x (by simp)
    obtain ⟨ds, h1, h2, h3⟩ := ThA.dt (CP := CP) (M := M) fun y hy => h y (List.mem_cons_of_mem _ hy)
    refine ⟨.tuple [.str "thing", .int k] :: ds, dtAll_cons (dt_tup ht (dtAll_cons dt_str (dtAll_cons dt_int dtAll_nil))) h1, ?_, Nat.max_le.mpr ⟨?_, h3⟩⟩
    · simp only [noDictAll, noDict, h2, Bool.and_self]
    · exact Nat.le_of_eq rfl
theorem HandAt.fr {p l : Addr} {M : List Addr} {H H' : Hp} (h : HandAt p l H) (k : Fr M H H') (n1 : p ∉ M) (n2 : l ∉ M) : HandAt p l H' := by
  obtain ⟨ns, i, c, z, t, h1, h2, h3, r⟩ := h
  exact ⟨ns, i, c, z, t, k _ _ n1 h1, h2, k _ _ n2 h3, r⟩
/-- where the first half stands: the hand, an end at which things were put, the other end, which holds nothing ahead -/
structure FI (G : Hp) (CO CI p l0 o e l d : Addr) (xs : List V) (many : Nat) (g t : Int) (H : Hp) : Prop where
  hand : HandAt p l0 H
  out : OutAt CO H o l g xs
  inc : IncAt CI H e d t []
  sum : g + (xs.length : Nat) = many
  g0 : 0 ≤ g
  t0 : 0 ≤ t
  ths : ThA H xs
  lp : l ≠ p
  ll : l ≠ l0
  oe : o ≠ e
  old : Same G H
  new : ∀ b ∈ [p, o, e, l, d], G b = none
section
variable {G : Hp} {CO CI p l0 o e l d : Addr} {xs : List V} {many : Nat} {g t : Int} {H H' : Hp}
theorem FI.op (h : FI G CO CI p l0 o e l d xs many g t H) : o ≠ p ∧ o ≠ l0 ∧ e ≠ p ∧ e ≠ l0 ∧ d ≠ p ∧ d ≠ l0 ∧ o ≠ l ∧ o ≠ d ∧ e ≠ l ∧ e ≠ d ∧ l ≠ d := by
  obtain ⟨ns, i, c, z, tt, hp, _, hl0, _⟩ := h.hand
  obtain ⟨⟨dx, ho⟩, hl⟩ := h.out
  obtain ⟨⟨dy, he⟩, hd⟩ := h.inc
  exact ⟨ne_of ho hp (by intro z; cases z), ne_of ho hl0 (by intro z; cases z), ne_of he hp (by intro z; cases z), ne_of he hl0 (by intro z; cases z), ne_of hd hp (by intro z; cases z), ne_of hd hl0 (by intro z; cases z), ne_of ho hl (by intro z; cases z), ne_of ho hd (by intro z; cases z),
    ne_of he hl (by intro z; cases z), ne_of he hd (by intro z; cases z), ne_of hl hd (by intro z; cases z)⟩
theorem FI.same (h : FI G CO CI p l0 o e l d xs many g t H) (s : Same H H') : FI G CO CI p l0 o e l d xs many g t H' :=
  ⟨h.hand.keep s, h.out.same s, h.inc.same s, h.sum, h.g0, h.t0, h.ths.kt (KT.same s), h.lp, h.ll, h.oe, h.old.trans s, h.new⟩
theorem FI.turn (h : FI G CO CI p l0 o e l d xs many g t H) (hh : HandAt p l0 H') (k : Keep p H H') : FI G CO CI p l0 o e l d xs many g t H' := by
  obtain ⟨n1, n2, n3, n4, n5, n6, n7, n8, n9, n10, n11⟩ := h.op
  have f := (h.hand.fk k).1
  exact ⟨hh, h.out.fr f (by simp [n1]) (by simp [h.lp]), h.inc.fr f (by simp [n3]) (by simp [n5]), h.sum, h.g0, h.t0, h.ths.kt (h.hand.fk k).2, h.lp, h.ll, h.oe, fun b u e => k b u (fun z => by rw [z, h.new p (by simp)] at e; cases e) (h.old b u e), h.new⟩
theorem KT.ins {a C dx : Addr} {fs : List (Str × V)} {H H' : Hp} (h : H a = some (.ins C dx fs)) (f : Fr [a] H H') : KT H H' := KT.fr f fun b hb ys => by
  have : b = a := by simpa using hb
  rw [this, h]
  intro z
  cases z
theorem FI.known {l' : Addr} {u : Nat} (h : FI G CO CI p l0 o e l d xs many g t H) (f : Fr [o] H H') (n : H l' = none) (ho : OutAt CO H' o l' (g + u) (xs.drop u)) (hu : u ≤ xs.length) : FI G CO CI p l0 o e l' d (xs.drop u) many (g + u) t H' := by
  obtain ⟨n1, n2, n3, n4, n5, n6, n7, n8, n9, n10, n11⟩ := h.op
  obtain ⟨w, hp⟩ := h.hand.there
  obtain ⟨w2, hl0⟩ := h.hand.there2
  obtain ⟨dx, hx⟩ := h.out.1
  refine ⟨h.hand.fr f (by simp [n1.symm]) (by simp [n2.symm]), ho, h.inc.fr f (by simp [h.oe.symm]) (by simp [n8.symm]), ?_, by have := h.g0; omega, h.t0, fun x hx2 => (h.ths.kt (KT.ins hx f)) x (List.mem_of_mem_drop hx2), (ne_of_none hp n).symm, (ne_of_none hl0 n).symm, h.oe, fun b u' e => f b u' (fun z => by rw [show b = o by simpa using z, h.new o (by simp)] at e; cases e) (h.old b u' e), fun b hb => ?_⟩
  case refine_2 =>
    simp only [List.mem_cons, List.not_mem_nil, or_false] at hb
    rcases hb with rfl | rfl | rfl | rfl | rfl
    · exact h.new _ (by simp)
    · exact h.new _ (by simp)
    · exact h.new _ (by simp)
    · exact h.old.free n
    · exact h.new _ (by simp)
  have := h.sum
  rw [List.length_drop]
  omega
theorem FI.took {t' : Int} (h : FI G CO CI p l0 o e l d xs many g t H) (f : Fr [e, d] H H') (hi : IncAt CI H' e d t' []) (h0 : 0 ≤ t') : FI G CO CI p l0 o e l d xs many g t' H' := by
  obtain ⟨n1, n2, n3, n4, n5, n6, n7, n8, n9, n10, n11⟩ := h.op
  obtain ⟨⟨dy, he⟩, hd⟩ := h.inc
  have kt : KT H H' := KT.fr f fun b hb ys => by
    simp only [List.mem_cons, List.not_mem_nil, or_false] at hb
    rcases hb with rfl | rfl
    · rw [he]
      intro z
      cases z
    · rw [hd]
      intro z
      cases z
  exact ⟨h.hand.fr f (by simp [n3.symm, n5.symm]) (by simp [n4.symm, n6.symm]), h.out.fr f (by simp [h.oe, n8]) (by simp [n9.symm, n11]), hi, h.sum, h.g0, h0, h.ths.kt kt, h.lp, h.ll, h.oe, fun b u e' => f b u (fun z => by
    simp only [List.mem_cons, List.not_mem_nil, or_false] at z
    rcases z with rfl | rfl
    · rw [h.new b (by simp)] at e'
      cases e'
    · rw [h.new b (by simp)] at e'
      cases e') (h.old b u e'), h.new⟩
theorem FI.put {y : Addr} {k : Int} (h : FI G CO CI p l0 o e l d xs many g t H) (hy : H y = some (.tup [.str "thing", .int k])) (f : Fr [l] H H') (ho : OutAt CO H' o l g (xs ++ [.ref y])) : FI G CO CI p l0 o e l d (xs ++ [.ref y]) (many + 1) g t H' := by
  obtain ⟨n1, n2, n3, n4, n5, n6, n7, n8, n9, n10, n11⟩ := h.op
  have hl := h.out.2
  have kt : KT H H' := KT.fr f fun b hb ys => by
    have : b = l := by simpa using hb
    rw [this, hl]
    intro z
    cases z
  refine ⟨h.hand.fr f (by simp [h.lp.symm]) (by simp [h.ll.symm]), ho, h.inc.fr f (by simp [n9]) (by simp [n11.symm]), ?_, h.g0, h.t0, fun x hx => ?_, h.lp, h.ll, h.oe, fun b u e' => f b u (fun z => by rw [show b = l by simpa using z, h.new l (by simp)] at e'; cases e') (h.old b u e'), h.new⟩
  · have := h.sum
    rw [List.length_append]
    simp
    omega
  · rcases List.mem_append.mp hx with hx | hx
    · exact (h.ths.kt kt) x hx
    · rw [show x = .ref y by simpa using hx]
      exact ⟨y, k, rfl, kt _ _ hy⟩
end
theorem rd_eqD {K : PySem.W.Frag} {CP CP2 : Addr → Prop} {M1 M2 : List Addr} {H : Hp} {Q : VK} {v u : V} {d e : PyData} (h1 : Dt CP M1 H d v) (h2 : Dt CP2 M2 H e u) (l1 : SeqAt.shaped d = true) (l2 : SeqAt.shaped e = true) (q : Q (.bl (!PyData.eqv d e)) H) : rNeD K v u H Q :=
  ⟨d, e, dt_dp _ _ (SeqAt.canLay_of_shaped l1) h1, dt_dp _ _ (SeqAt.canLay_of_shaped l2) h2, l1, l2, q⟩
theorem dt_none1 {CP : Addr → Prop} {M : List Addr} {H : Hp} {t : Addr} (h : H t = some (.tup [.str "NoNumber"])) : Dt CP M H (.tuple [.str "NoNumber"]) (.ref t) := dt_tup h (dtAll_cons dt_str dtAll_nil)
theorem ok_nn : PyData.strOk "NoNumber" = true := by decide +kernel
theorem ok_told : PyData.strOk "told" = true := by decide +kernel
theorem ok_x : PyData.strOk "x" = true := by decide +kernel
theorem ne_none1 : (!PyData.eqv (.tuple [.str "NoNumber"]) (.tuple [.str "NoNumber"])) = false := by
  rw [SeqAt.eqv_refl _ (by simp [PyData.canLay0, PyData.canLayAll0, ok_nn])]
  rfl
theorem sh_none1 : SeqAt.shaped (.tuple [.str "NoNumber"]) = true := by
  simp [SeqAt.shaped, PyData.canLay0, PyData.canLayAll0, PyData.depth, PyData.depthAll, ok_nn]
/-- how many are let go of by a number -/
def KRes (o : Addr) (l : Addr) (g : Int) (xs : List V) (C : Addr) (d : PyData) (H : Hp) (tt : Addr) (H' : Hp) : Prop :=
  (∃ (n : Int) (l' : Addr) (u : Nat), d = .int n ∧ 0 ≤ n ∧ n ≤ g + (xs.length : Nat) ∧ (u : Int) = (if 0 < n - g then n - g else 0) ∧ Fr [o] H H' ∧ H l' = none ∧ OutAt C H' o l' (g + u) (xs.drop u) ∧ tt ≠ o ∧ H tt = none ∧ H' tt = some (.tup [.str "told", .int u])) ∨
  ((isNum d = false ∨ ∃ n, d = .int n ∧ g + (xs.length : Nat) < n) ∧ Same H H' ∧ H tt = none ∧ H' tt = some (.tup [.str "NoNumber"]))
theorem known_one {CP : Addr → Prop} {C o l : Addr} {g : Int} {xs : List V} {M : List Addr} {d : PyData} {x : V} {H : Hp} {Q : VK} {E : XK} (ho : OutAt C H o l g xs) (hd : Dt CP M H d x) (hl : xs.length ≤ 1000) (h : ∀ tt H', KRes o l g xs C d H tt H' → Q (.ref tt) H') : spLKnown CP C [.ref o, x] H Q E := by
  refine ⟨o, l, g, xs, M, d, x, rfl, ho, hd, hl, fun n l' u tt HC en n0 n1 hu f nl' hoC ntt htn htt => ?_, fun bad tt HC sC ntt htt => ?_⟩
  · exact h tt HC (.inl ⟨n, l', u, en, n0, n1, hu, f, nl', hoC, ntt, htn, htt⟩)
  · refine h tt HC (.inr ⟨bad, sC, ntt, htt⟩)
def TRes (C e d : Addr) (k : Int) (m : List (Key × V)) (dn : PyData) (H : Hp) (t : Addr) (H' : Hp) : Prop :=
  (∃ (n : Int) (y L : Addr), dn = .int n ∧ 0 ≤ n ∧ n < 4294967296 ∧ Fr [e, d] H H' ∧ H L = none ∧ H y = none ∧ H t = none ∧ L ≠ y ∧ t ≠ L ∧ t ≠ y ∧ IncAt C H' e d (drain k (hear k n (.ref y) m)).1 (drain k (hear k n (.ref y) m)).2.1 ∧ H' y = some (.tup [.str "x", .int 1]) ∧
    H' L = some (.lst (drain k (hear k n (.ref y) m)).2.2) ∧ H' t = some (.tup [.str "told", .ref L])) ∨
  (isNb 4294967296 dn = false ∧ Same H H' ∧ H t = none ∧ H' t = some (.tup [.str "NoNumber"]))
theorem taken_one {CP : Addr → Prop} {C e d : Addr} {k : Int} {m : List (Key × V)} {M : List Addr} {dn : PyData} {x : V} {H : Hp} {Q : VK} {E : XK} (hi : IncAt C H e d k m) (hd : Dt CP M H dn x) (hm : m.length ≤ 1000) (h : ∀ t H', TRes C e d k m dn H t H' → Q (.ref t) H') : spLTaken CP C [.ref e, x] H Q E := by
  refine ⟨e, d, k, m, M, dn, x, rfl, hi, hd, hm, fun n y L t H' a1 a2 a3 a4 a5 a6 a7 a8 a9 a10 a11 a12 a13 a14 => ?_, fun a1 t H' a2 a3 a4 => ?_⟩
  · exact h t H' (.inl ⟨n, y, L, a1, a2, a3, a4, a5, a6, a7, a8, a9, a10, a11, a12, a13, a14⟩)
  · exact h t H' (.inr ⟨a1, a2, a3, a4⟩)
theorem istate_one {C e d : Addr} {k : Int} {H : Hp} {Q : VK} {E : XK} (hi : IncAt C H e d k []) (h : ∀ st su H', Same H H' → H st = none → H' st = some (.tup [.int k, .ref su]) → H' su = some (.tup []) → Q (.ref st) H') : spIState C [.ref e] H Q E := by
  refine ⟨e, d, k, [], [], rfl, hi, rfl, by simp, fun t u ts ps H' s nt nu ht hu hp hperm _ _ => ?_⟩
  have e1 : ps = [] := by
    have := hperm.length_eq
    cases ps with
    | nil => rfl
    | cons a b => simp at this
  subst e1
  have e2 : ts = [] := List.length_eq_zero_iff.mp hp.1
  subst e2
  exact h t u H' s nt ht hu
theorem sh_told0 : SeqAt.shaped (.tuple [.str "told", .list []]) = true := by
  simp [SeqAt.shaped, PyData.canLay0, PyData.canLayAll0, PyData.depth, PyData.depthAll, ok_told]
theorem ne_told0 : (!PyData.eqv (.tuple [.str "told", .list []]) (.tuple [.str "told", .list []])) = false := by
  rw [SeqAt.eqv_refl _ (by simp [PyData.canLay0, PyData.canLayAll0, ok_told])]
  rfl
/-- nothing ahead: what is heard is taken now or let go by -/
theorem hear_none {k n : Int} {y : V} (h : ¬ (k ≤ n ∧ n < k + 1000)) : hear k n y [] = [] := by
  unfold hear
  rw [if_neg fun z => h ⟨z.1, z.2.1⟩]
theorem hear_now {k : Int} {y : V} : drain k (hear k k y []) = (k + 1, [], [y]) := by
  have e : hear k k y [] = [(.inl k, y)] := by
    unfold hear
    rw [if_pos ⟨Int.le_refl _, by omega, rfl⟩]
    rfl
  rw [e]
  have e1 : valV [((.inl k : Key), y)] (.inl k) = some y := by
    unfold valV
    simp
  have e2 : dropK [((.inl k : Key), y)] (.inl k) = [] := by
    unfold dropK
    simp
  rw [drain_yes e1, e2, drain_no rfl]
end Mw

/-! X13 -/
namespace Mw
open PySem L2
section
variable {P : Program} {w : World} {K : PySem.W.Frag} {mg : Str → Option Value} {base : Heap}
local macro_rules | `(tactic| walk_at "rd") => `(tactic| (repeat (first
  | ((with_reducible refine' rd_var ?h0 ?_); (case h0 => rfl))
  | with_reducible refine rd_c ?_
  | with_reducible refine rd_op ?_
  | with_reducible refine rd_nil ?_
  | with_reducible refine rd_cons ?_
  | with_reducible refine rd_tup ?_
  | with_reducible refine rd_lst ?_
  | with_reducible refine rd_ifs ?_
  | with_reducible refine rd_seq ?_
  | with_reducible refine rd_next ?_
  | with_reducible refine rd_ret ?_
  | with_reducible refine rd_asg ?_
  | ((with_reducible refine' rd_gset ?hs ?_); (case hs => ((simp only [L2.start, List.map_cons, List.map_nil, List.length_cons, List.length_nil, List.cons_append, List.nil_append, List.set_cons_zero, List.set_cons_succ, Nat.reduceAdd, Nat.reduceSub, Nat.zero_add, List.reduceReplicate]); rfl)))
  | with_reducible refine rd_drop ?_
  | with_reducible refine rd_test ?_
  | with_reducible refine rd_B ?_
  | with_reducible refine rd_bl ?_
  | with_reducible refine rd_blP ?_
  | with_reducible refine rd_andV ?_
  | with_reducible refine rd_orV ?_
  | with_reducible refine rd_notV ?_
  | with_reducible refine rd_and ?_
  | with_reducible refine rd_or ?_
  | with_reducible refine rd_not ?_
  | with_reducible refine rd_chain ?_
  | with_reducible refine rd_dput ?_
  | with_reducible refine rd_dget ?_
  | with_reducible refine rd_cb ?_
  | with_reducible refine rd_call ?_
  | with_reducible refine rd_un ?_
  | with_reducible refine rd_sl ?_
  | with_reducible refine rd_nopart ?_
  | with_reducible refine rd_part ?_
  | with_reducible refine rd_intP ?_
  | with_reducible refine rd_rU ?_
  | with_reducible refine rd_fld ?_
  | with_reducible refine rd_eqI ?_
  | with_reducible refine rd_neI ?_
  | with_reducible refine rd_mko ?_
  | with_reducible refine rd_bm ?_
  | with_reducible refine rd_gsub ?_
  | with_reducible refine rd_i0 ?_)))
theorem ok_law_first (T : Tx K mg) (B : Bk K mg T) : FnOk P w K mg base CX0 9 B.law_first.f B.law_first.fd ["script"] (spFirst K) := by
  have G_law_hand := ok_law_hand (P := P) (w := w) (base := base) T B
  have G_law_take := ok_law_take (P := P) (w := w) (base := base) T B
  have G_law_pick := ok_law_pick (P := P) (w := w) (base := base) T B
  have G_law_odd := ok_law_odd (P := P) (w := w) (base := base) T B
  have G_law_known := ok_law_known (P := P) (w := w) (base := base) T B
  have G_law_taken := ok_law_taken (P := P) (w := w) (base := base) T B
  have G_law_is_within := ok_law_is_within (P := P) (w := w) (base := base) T B
  have G_law_same := ok_law_same (P := P) (w := w) (base := base) T B 6
  have G_Outgoing_init := ok_out_init (P := P) (w := w) (base := base) T B
  have G_Outgoing_put := ok_put (P := P) (w := w) (base := base) T B
  have G_Outgoing_state := ok_ostate (P := P) (w := w) (base := base) T B
  have G_Outgoing_many_put := ok_many_put (P := P) (w := w) (base := base) T B
  have G_Incoming_init := ok_inc_init (P := P) (w := w) (base := base) T B
  have G_Incoming_taken := ok_taken (P := P) (w := w) (base := base) T B
  have G_Incoming_state := ok_istate (P := P) (w := w) (base := base) T B
  refine B.law_first.F.ok sc_law_first (fun vs H Q E h => ?_) (fun cdv A outer s H vs Q E hr h => ?_)
  · obtain ⟨a, ns, rfl, _⟩ := h
    rfl
  · obtain ⟨sc, ns, rfl, ha, q⟩ := h
    refine ⟨_, (pss_cons (ps_set (i := 1) sc_law_first.nd rfl (Or.inl rfl) (pe_call G_law_hand (hr.mono (by omega)) rfl B.law_hand.m B.law_hand.F.kp B.law_hand.b .nil pass0 (pa_cons (pv 0) pa_nil)))
      (pss_cons (ps_set (i := 2) sc_law_first.nd rfl (Or.inl rfl) (pe_make0 (mk_of_Outgoing T B.Outgoing_init) G_Outgoing_init (hr.mono (by omega)) rfl T.g_Outgoing B.Outgoing_init.b .nil pass0))
      (pss_cons (ps_set (i := 3) sc_law_first.nd rfl (Or.inl rfl) (pe_make0 (mk_of_Incoming T B.Incoming_init) G_Incoming_init (hr.mono (by omega)) rfl T.g_Incoming B.Incoming_init.b .nil pass0))
      (pss_cons (ps_set (i := 4) sc_law_first.nd rfl (Or.inl rfl) (pe_call G_law_take (hr.mono (by omega)) rfl B.law_take.m B.law_take.F.kp B.law_take.b .nil pass0 (pa_cons (pv 1) (pa_cons pe_int pa_nil))))
      (pss_cons (ps_for PassesOwn.never rfl (pi_range1 (by rfl) T.b_range (pa_cons (pv 4) pa_nil)) (pg_name (i := 5) sc_law_first.nd rfl (Or.inl rfl)) (pss_one (ps_expr (pe_meth (pv 2) T.W_Outgoing.cl ⟨B.Outgoing_put.a, B.Outgoing_put.i, B.Outgoing_put.F.kp⟩ G_Outgoing_put (hr.mono (by omega)) B.Outgoing_put.b .nil pass0 (pa_cons (pe_tup (pa_cons pe_str (pa_cons (pv 5) pa_nil))) pa_nil)))))
      (pss_cons (ps_set (i := 6) sc_law_first.nd rfl (Or.inl rfl) pe_int)
      (pss_cons (ps_set (i := 7) sc_law_first.nd rfl (Or.inl rfl) pe_int)
      (pss_cons (ps_for PassesOwn.never rfl (pi_range1 (by rfl) T.b_range (pa_cons pe_int pa_nil)) (pg_name (i := 5) sc_law_first.nd rfl (Or.inl rfl)) (pss_cons (ps_set (i := 8) sc_law_first.nd rfl (Or.inl rfl) (pe_lst (pa_cons (pe_call G_law_take (hr.mono (by omega)) rfl B.law_take.m B.law_take.F.kp B.law_take.b .nil pass0 (pa_cons (pv 1) (pa_cons (pe_op op_add (pv 4) pe_int) pa_nil))) (pa_cons (pv 4) (pa_cons (pe_op op_add (pv 4) pe_int) (pa_cons (pe_un un_neg pe_int) (pa_cons pe_bl (pa_cons pe_non (pa_cons pe_str (pa_cons (pe_call G_law_odd (hr.mono (by omega)) rfl B.law_odd.m B.law_odd.F.kp B.law_odd.b .nil pass0 (pa_cons (pv 1) pa_nil)) (pa_cons (pe_op op_pow pe_int pe_int) pa_nil)))))))))))
      (pss_cons (ps_set (i := 9) sc_law_first.nd rfl (Or.inl rfl) (pe_call G_law_pick (hr.mono (by omega)) rfl B.law_pick.m B.law_pick.F.kp B.law_pick.b .nil pass0 (pa_cons (pv 1) (pa_cons (pv 8) pa_nil))))
      (pss_cons (ps_set (i := 10) sc_law_first.nd rfl (Or.inl rfl) (pe_meth0 (pv 2) T.W_Outgoing.cl ⟨B.Outgoing_state.a, B.Outgoing_state.i, B.Outgoing_state.F.kp⟩ G_Outgoing_state (hr.mono (by omega)) B.Outgoing_state.b .nil pass0))
      (pss_cons (ps_set (i := 11) sc_law_first.nd rfl (Or.inl rfl) (pe_call G_law_known (hr.mono (by omega)) rfl B.law_known.m B.law_known.F.kp B.law_known.b .nil pass0 (pa_cons (pv 2) (pa_cons (pv 9) pa_nil))))
      (C8.pss_cut (ps_if (pt_val (pe_call G_law_is_within (hr.mono (by omega)) rfl B.law_is_within.m B.law_is_within.F.kp B.law_is_within.b .nil pass0 (pa_cons (pv 9) (pa_cons pe_int (pa_cons (pv 4) pa_nil))))) (pss_cons (ps_if (pt_not (pt_val (pe_call G_law_same (hr.mono (by omega)) rfl B.law_same.m B.law_same.F.kp B.law_same.b .nil pass0 (pa_cons (pv 11) (pa_cons (pe_tup (pa_cons pe_str (pa_cons (pe_callB (call_max2 rfl) (by rfl) T.b_max (by decide +kernel) (pa_cons pe_int (pa_cons (pe_op op_sub (pv 9) (pv 6)) pa_nil))) pa_nil))) pa_nil))))) (pss_one (ps_ret pe_bl)) pss_nil)
      (pss_one (ps_set (i := 6) sc_law_first.nd rfl (Or.inl rfl) (pe_callB (call_max2 rfl) (by rfl) T.b_max (by decide +kernel) (pa_cons (pv 6) (pa_cons (pv 9) pa_nil)))))) (pss_one (ps_if (PW.pt (pw_or (pt_cmpR (op_neD hr.units) (pv 11) (pe_tup (pa_cons pe_str pa_nil)) (nomark _)) (pw_or1 (pt_not (pt_val (pe_call G_law_same (hr.mono (by omega)) rfl B.law_same.m B.law_same.F.kp B.law_same.b .nil pass0 (pa_cons (pe_meth0 (pv 2) T.W_Outgoing.cl ⟨B.Outgoing_state.a, B.Outgoing_state.i, B.Outgoing_state.F.kp⟩ G_Outgoing_state (hr.mono (by omega)) B.Outgoing_state.b .nil pass0) (pa_cons (pv 10) pa_nil)))))))) (pss_one (ps_ret pe_bl)) pss_nil)))
      (pss_cons (ps_set (i := 9) sc_law_first.nd rfl (Or.inl rfl) (pe_call G_law_pick (hr.mono (by omega)) rfl B.law_pick.m B.law_pick.F.kp B.law_pick.b .nil pass0 (pa_cons (pv 1) (pa_cons (pe_lst (pa_cons (pv 7) (pa_cons (pv 7) (pa_cons (pv 7) (pa_cons (pe_op op_sub (pe_op op_pow pe_int pe_int) pe_int) (pa_cons (pe_op op_pow pe_int pe_int) (pa_cons (pe_un un_neg pe_int) (pa_cons pe_bl (pa_cons pe_non (pa_cons (pe_tup (pa_cons pe_int pa_nil)) (pa_cons (pe_call G_law_odd (hr.mono (by omega)) rfl B.law_odd.m B.law_odd.F.kp B.law_odd.b .nil pass0 (pa_cons (pv 1) pa_nil)) pa_nil))))))))))) pa_nil))))
      (C8.pss_cut (ps_if (pt_val (pe_call G_law_is_within (hr.mono (by omega)) rfl B.law_is_within.m B.law_is_within.F.kp B.law_is_within.b .nil pass0 (pa_cons (pv 9) (pa_cons (pe_op op_add (pv 7) pe_int) (pa_cons (pe_op op_add (pv 7) pe_int) pa_nil))))) (pss_one (ps_set (i := 9) sc_law_first.nd rfl (Or.inl rfl) (pv 7))) pss_nil)
      (pss_cons (ps_set (i := 10) sc_law_first.nd rfl (Or.inl rfl) (pe_meth0 (pv 3) T.W_Incoming.cl ⟨B.Incoming_state.a, B.Incoming_state.i, B.Incoming_state.F.kp⟩ G_Incoming_state (hr.mono (by omega)) B.Incoming_state.b .nil pass0))
      (pss_cons (ps_set (i := 11) sc_law_first.nd rfl (Or.inl rfl) (pe_call G_law_taken (hr.mono (by omega)) rfl B.law_taken.m B.law_taken.F.kp B.law_taken.b .nil pass0 (pa_cons (pv 3) (pa_cons (pv 9) pa_nil))))
      (pss_one (ps_if (pt_not (pt_val (pe_call G_law_is_within (hr.mono (by omega)) rfl B.law_is_within.m B.law_is_within.F.kp B.law_is_within.b .nil pass0 (pa_cons (pv 9) (pa_cons pe_int (pa_cons (pe_op op_sub (pe_op op_pow pe_int pe_int) pe_int) pa_nil)))))) (pss_one (ps_if (PW.pt (pw_or (pt_cmpR (op_neD hr.units) (pv 11) (pe_tup (pa_cons pe_str pa_nil)) (nomark _)) (pw_or1 (pt_not (pt_val (pe_call G_law_same (hr.mono (by omega)) rfl B.law_same.m B.law_same.F.kp B.law_same.b .nil pass0 (pa_cons (pe_meth0 (pv 3) T.W_Incoming.cl ⟨B.Incoming_state.a, B.Incoming_state.i, B.Incoming_state.F.kp⟩ G_Incoming_state (hr.mono (by omega)) B.Incoming_state.b .nil pass0) (pa_cons (pv 10) pa_nil)))))))) (pss_one (ps_ret pe_bl)) pss_nil)) (pss_one (ps_if (pt_cmpR op_eq (pv 9) (pv 7) (nomark _)) (pss_cons (ps_if (pt_not (pt_val (pe_call G_law_same (hr.mono (by omega)) rfl B.law_same.m B.law_same.F.kp B.law_same.b .nil pass0 (pa_cons (pv 11) (pa_cons (pe_tup (pa_cons pe_str (pa_cons (pe_lst (pa_cons (pe_tup (pa_cons pe_str (pa_cons pe_int pa_nil))) pa_nil)) pa_nil))) pa_nil))))) (pss_one (ps_ret pe_bl)) pss_nil)
      (pss_one (ps_set (i := 7) sc_law_first.nd rfl (Or.inl rfl) (pe_op op_add (pv 7) pe_int)))) (pss_one (ps_if (pt_cmpR (op_neD hr.units) (pv 11) (pe_tup (pa_cons pe_str (pa_cons (pe_lst pa_nil) pa_nil))) (nomark _)) (pss_one (ps_ret pe_bl)) pss_nil))))))))))))))))
      (pss_one (ps_ret (pe_and (pe_call G_law_same (hr.mono (by omega)) rfl B.law_same.m B.law_same.F.kp B.law_same.b .nil pass0 (pa_cons (pe_meth0 (pv 2) T.W_Outgoing.cl ⟨B.Outgoing_many_put.a, B.Outgoing_many_put.i, B.Outgoing_many_put.F.kp⟩ G_Outgoing_many_put (hr.mono (by omega)) B.Outgoing_many_put.b .nil pass0) (pa_cons (pv 4) pa_nil))) (pe_one (pe_call G_law_same (hr.mono (by omega)) rfl B.law_same.m B.law_same.F.kp B.law_same.b .nil pass0 (pa_cons (pe_meth0 (pv 3) T.W_Incoming.cl ⟨B.Incoming_taken.a, B.Incoming_taken.i, B.Incoming_taken.F.kp⟩ G_Incoming_taken (hr.mono (by omega)) B.Incoming_taken.b .nil pass0) (pa_cons (pv 7) pa_nil))))))))))))))), ?_⟩
    walk_at "rd"
    refine ⟨sc, ns, rfl, ha, fun p l0 H1 np nl0 hh1 s1 => ?_⟩
    walk_at "rd"
    refine rd_make ?_
    walk_at "rd"
    intro o dx no ndx neo
    have S2 : Same H1 (upd (upd H1 dx (.own o)) o (.ins T.c_Outgoing dx [])) := fun z u e => by
      rw [upd_ne (ne_of_none e no), upd_ne (ne_of_none e ndx)]
      exact e
    refine ⟨o, dx, rfl, upd_same, fun l H2 f2 nl ho2 => ⟨rfl, ?_⟩⟩
    have s2 : Same H1 H2 := fun z u e => f2 z u (by simpa using ne_of_none e no) (S2 _ _ e)
    have nl1 := S2.free nl
    have hh2 := hh1.keep s2
    walk_at "rd"
    refine rd_make ?_
    walk_at "rd"
    intro e dy ne ndy ney
    have S3 : Same H2 (upd (upd H2 dy (.own e)) e (.ins T.c_Incoming dy [])) := fun z u h => by
      rw [upd_ne (ne_of_none h ne), upd_ne (ne_of_none h ndy)]
      exact h
    refine ⟨e, dy, rfl, upd_same, fun d H3 f3 nd hi3 => ⟨rfl, ?_⟩⟩
    have s3 : Same H2 H3 := fun z u h => f3 z u (by simpa using ne_of_none h ne) (S3 _ _ h)
    have hh3 := hh2.keep s3
    have ho3 := ho2.same s3
    have FI3 : FI H T.c_Outgoing T.c_Incoming p l0 o e l d [] 0 0 0 H3 := by
      obtain ⟨u, hp⟩ := hh1.there
      obtain ⟨u2, hl0⟩ := hh1.there2
      obtain ⟨⟨dz, hz⟩, _⟩ := ho2
      refine ⟨hh3, ho3, hi3, (by simp), Int.le_refl _, Int.le_refl _, (fun x hx => by cases hx), (ne_of_none hp nl1).symm, (ne_of_none hl0 nl1).symm, ne_of_none hz ne, (s1.trans s2).trans s3, fun b hb => ?_⟩
      simp only [List.mem_cons, List.not_mem_nil, or_false] at hb
      rcases hb with rfl | rfl | rfl | rfl | rfl
      · exact np
      · exact s1.free no
      · exact (s1.trans s2).free ne
      · exact s1.free nl1
      · exact (s1.trans s2).free (S3.free nd)
    clear hh1 s1 S2 f2 nl ho2 s2 nl1 hh2 S3 f3 nd hi3 s3 hh3 ho3
    walk_at "rd"
    refine ⟨p, l0, _, rfl, by decide, by decide, FI3.hand, fun m H4 m0 m1 hh4 k4 => ?_⟩
    have FI4 := FI3.turn hh4 k4
    obtain ⟨m, rfl⟩ := Int.eq_ofNat_of_zero_le m0
    clear FI3 hh4 k4
    walk_at "rd"
    refine rd_rng1 ?_
    walk_at "rd"
    refine ⟨_, rfl, by omega, by omega, for_range (n := m) (lo := 0) (fun i σ H5 => ∃ (xs : List V) (u5 : Option V), σ = [some (.ref sc), some (.ref p), some (.ref o), some (.ref e), some (.int m), u5, none, none, none, none, none, none] ∧ FI H T.c_Outgoing T.c_Incoming p l0 o e l d xs i 0 0 H5) ⟨[], _, rfl, FI4⟩ ?_ ?_⟩
    · rintro i σ H5 hi ⟨xs, u5, rfl, F5⟩
      walk_at "rd"
      refine rd_meth ?_
      walk_at "rd"
      obtain ⟨dz, hz⟩ := F5.out.1
      refine ⟨o, dz, _, rfl, hz, rfl, ?_⟩
      walk_at "rd"
      refine rd_disp rfl fun y ny => ?_
      have s5 := same_new (o := .tup [.str "thing", .int (0 + i)]) ny
      have F6 := F5.same s5
      walk_at "rd"
      refine ⟨o, l, 0, xs, .ref y, rfl, F6.out, by have := F6.sum; omega, fun H7 f7 ho7 => ?_⟩
      walk_at "rd"
      exact ⟨_, _, rfl, F6.put upd_same f7 ho7⟩
    · rintro σ H5 ⟨xs, u5, rfl, F5⟩
      walk_at "rd"
      refine ⟨_, rfl, by decide, by decide, for_range (n := 8) (lo := 0) (fun i σ H6 => ∃ (l d : Addr) (xs : List V) (g t : Nat) (u1 u2 u3 u4 u5 : Option V), σ = [some (.ref sc), some (.ref p), some (.ref o), some (.ref e), some (.int m), u5, some (.int g), some (.int t), u1, u2, u3, u4] ∧ FI H T.c_Outgoing T.c_Incoming p l0 o e l d xs m g t H6 ∧ t ≤ i) ⟨l, d, xs, 0, 0, _, _, _, _, _, rfl, F5, Nat.le_refl _⟩ ?_ ?_⟩
      clear F5
      · rintro i σ H6 hi ⟨l, d, xs, g, t, u1, u2, u3, u4, u5, rfl, F6, ti⟩
        walk_at "rd"
        refine ⟨p, l0, _, rfl, by omega, by omega, F6.hand, fun r H7 r0 r1 hh7 k7 => ?_⟩
        have F7 := F6.turn hh7 k7
        clear hh7 k7 F6
        walk_at "rd"
        refine ⟨p, l0, rfl, F7.hand, fun d8 x8 H8 t8 hh8 k8 => ?_⟩
        have F8 := F7.turn hh8 k8
        walk_at "rd"
        refine rd_iC ⟨by decide, by decide, by decide⟩ ?_
        refine rd_disp rfl fun a9 n9 => ?_
        have s9 := same_new (o := .lst [.int r, .int m, .int (m + 1), .int (-1), .bl true, .non, .str "0", x8, .int (10 ^ (19 : Int).toNat)]) n9
        have F9 := F8.same s9
        have D9 : DtAll T.CP [p] (upd H8 a9 (.lst [.int r, .int m, .int (m + 1), .int (-1), .bl true, .non, .str "0", x8, .int (10 ^ (19 : Int).toNat)])) [.int r, .int m, .int (m + 1), .int (-1), .bool true, .none, .str "0", d8, .int (10 ^ (19 : Int).toNat)] _ :=
          dtAll_cons dt_int (dtAll_cons dt_int (dtAll_cons dt_int (dtAll_cons dt_int (dtAll_cons dt_bl (dtAll_cons dt_non (dtAll_cons dt_str (dtAll_cons (t8.s s9) (dtAll_cons dt_int dtAll_nil))))))))
        walk_at "rd"
        obtain ⟨w9, hw9⟩ := F8.hand.there
        refine ⟨p, l0, a9, _, rfl, ⟨(ne_of_none hw9 n9).symm, upd_same⟩, by simp, by simp, F9.hand, fun j x HA hx hhA kA => ?_⟩
        obtain ⟨dn, hdn, tn⟩ := D9.get' hx
        have FA := F9.turn hhA kA
        have tA := tn.k (F9.hand.fk kA)
        clear D9 hw9 hx hdn tn s9 hhA kA F9 F8 t8 k8 hh8 F7
        walk_at "rd"
        refine rd_meth ?_
        walk_at "rd"
        obtain ⟨dz, hz⟩ := FA.out.1
        refine ⟨o, dz, _, rfl, hz, rfl, ?_⟩
        walk_at "rd"
        refine ⟨o, l, g, xs, rfl, FA.out, fun st su HB sB nst hst hsu nsu => ?_⟩
        have FB := FA.same sB
        have tB := tA.s sB
        obtain ⟨ds, hds1, hds2, hds3⟩ := FB.ths.dt (CP := T.CP) (M := [p])
        have stB : Dt T.CP [p] HB (.tuple [.int g, .tuple ds]) (.ref st) := dt_tup hst (dtAll_cons dt_int (dtAll_cons (dt_tup hsu hds1) dtAll_nil))
        clear FA tA hz hsu hst nsu nst
        walk_at "rd"
        have lxs : xs.length ≤ 1000 := by have := FB.sum; omega
        refine known_one FB.out tB lxs fun tt HC res => ?_
        walk_at "rd"
        refine ⟨fun σ1 H1 => ∃ (l : Addr) (xs : List V) (g : Nat) (v0 v1 v2 v3 v4 : Option V), σ1 = [some (.ref sc), some (.ref p), some (.ref o), some (.ref e), some (.int m), v0, some (.int g), some (.int t), v1, v2, v3, v4] ∧ FI H T.c_Outgoing T.c_Incoming p l0 o e l d xs m g t H1, ?_, ?_⟩
        · walk_at "rd"
          rcases res with ⟨n, l', u, rfl, n0, n1, hu, f, nl', hoC, ntt, htn, htt⟩ | ⟨bad, sC, ntt, htt⟩
          · have hu2 : u ≤ xs.length := by
              split at hu <;> omega
            have FC := FB.known f nl' hoC hu2
            have nm : n ≤ m := by
              have := FB.sum
              omega
            cases dt_int' tB
            refine ⟨[], _, _, 0, m, rfl, dt_int, ?_⟩
            rw [show inI 0 m (.int n) = true by simp [inI, n0, nm]]
            walk_at "rd"
            refine rd_yes rfl ?_
            walk_at "rd"
            refine ⟨0, n - g, rfl, ?_⟩
            have eu : (if (n : Int) - g > 0 then n - g else 0) = (u : Int) := by
              rw [hu]
            rw [eu]
            walk_at "rd"
            refine rd_disp rfl fun a1 b1 => ?_
            have s1 := same_new (o := .tup [.str "told", .int (u : Int)]) b1
            walk_at "rd"
            refine ⟨[], .tuple [.str "told", .int (u : Int)], _, _, rfl, rfl, Nat.lt_of_le_of_lt (Nat.le_of_eq rfl) (show 1 < 6 by decide), dt_tup (s1 _ _ htt) (dtAll_cons dt_str (dtAll_cons dt_int dtAll_nil)), dt_tup upd_same (dtAll_cons dt_str (dtAll_cons dt_int dtAll_nil)), fun HD sD => ?_⟩
            walk_at "rd"
            refine rd_no rfl ?_
            walk_at "rd"
            refine ⟨g, n, rfl, ?_⟩
            have eg : (if n > (g : Int) then n else (g : Int)) = ((g + u : Nat) : Int) := by
              rw [Int.natCast_add, hu]
              split <;> split <;> omega
            rw [eg]
            walk_at "rd"
            have F2 := (FC.same s1).same sD
            rw [show ((g : Int) + (u : Int)) = ((g + u : Nat) : Int) by omega] at F2
            exact ⟨l', _, g + u, _, _, _, _, _, rfl, F2⟩
          · cases hi0 : inI 0 m dn with
            | true => 
              exfalso
              cases dn with
              | int n => 
                simp [inI] at hi0
                rcases bad with b | ⟨n', e', b⟩
                · simp [isNum] at b
                  omega
                · cases e'
                  have := FB.sum
                  omega
              | _ => cases hi0
            | false =>
              refine ⟨[p], dn, x, 0, m, rfl, tB.s sC, ?_⟩
              rw [hi0]
              walk_at "rd"
              refine rd_no rfl ?_
              walk_at "rd"
              refine rd_disp rfl fun a1 b1 => ?_
              have s1 := same_new (o := .tup [.str "NoNumber"]) b1
              have FC := (FB.same sC).same s1
              refine rd_eqD (dt_none1 (CP := T.CP) (M := []) (s1 _ _ htt)) (dt_none1 (CP := T.CP) (M := []) upd_same) sh_none1 sh_none1 ?_
              rw [ne_none1]
              walk_at "rd"
              refine rd_no rfl ?_
              walk_at "rd"
              refine rd_meth ?_
              walk_at "rd"
              obtain ⟨dz, hz⟩ := FC.out.1
              refine ⟨o, dz, _, rfl, hz, rfl, ?_⟩
              walk_at "rd"
              refine ⟨o, l, g, xs, rfl, FC.out, fun st2 su2 HD sD nst2 hst2 hsu2 nsu2 => ?_⟩
              walk_at "rd"
              have FD := FC.same sD
              have stD := ((stB.s sC).s s1).s sD
              obtain ⟨_, xs', e1, hu1, hr1⟩ := dt_tup' stD
              refine ⟨[p], .tuple [.int g, .tuple ds], _, _, rfl, ?_, ?_, dt_tup hst2 (dtAll_cons dt_int (dtAll_cons (dt_tup hsu2 ?_) dtAll_nil)), stD, fun HE sE => ?_⟩
              · simp only [noDict, noDictAll, hds2, Bool.and_self]
              · show max 0 (max (PyData.depthAll ds + 1) 0) + 1 < 6
                omega
              · exact ((hds1.s sC).s s1).s sD
              walk_at "rd"
              refine rd_no rfl ?_
              walk_at "rd"
              exact ⟨l, _, g, _, _, _, _, _, rfl, FD.same sE⟩
        · clear FB tB stB hds1 res sB
          rintro σ1 H1 ⟨l1, xs1, g1, v0, v1, v2, v3, v4, rfl, F1⟩
          walk_at "rd"
          refine rd_iC ⟨by decide, by decide, by decide⟩ ?_
          walk_at "rd"
          refine rd_iC ⟨by decide, by decide, by decide⟩ ?_
          walk_at "rd"
          refine rd_disp rfl fun a2 n2 => ?_
          have s2 := same_new (o := .tup [.int 0]) n2
          have F2 := F1.same s2
          have h2 : (upd H1 a2 (.tup [.int 0])) a2 = some (.tup [.int 0]) := upd_same
          generalize upd H1 a2 (.tup [.int 0]) = H2 at s2 F2 h2
          walk_at "rd"
          refine ⟨p, l0, rfl, F2.hand, fun d3 x3 H3 t3 hh3 k3 => ?_⟩
          have h3 := (F2.hand.fk k3).2 _ _ h2
          have F3 := F2.turn hh3 k3
          walk_at "rd"
          refine rd_disp rfl fun a4 n4 => ?_
          have s4 := same_new (o := .lst [.int t, .int t, .int t, .int (2 ^ (32 : Int).toNat - 1), .int (2 ^ (32 : Int).toNat), .int (-1), .bl false, .non, .ref a2, x3]) n4
          have F4 := F3.same s4
          have D4 : DtAll T.CP [p] (upd H3 a4 (.lst [.int t, .int t, .int t, .int (2 ^ (32 : Int).toNat - 1), .int (2 ^ (32 : Int).toNat), .int (-1), .bl false, .non, .ref a2, x3])) [.int t, .int t, .int t, .int (2 ^ (32 : Int).toNat - 1), .int (2 ^ (32 : Int).toNat), .int (-1), .bool false, .none, .tuple [.int 0], d3] _ :=
            dtAll_cons dt_int (dtAll_cons dt_int (dtAll_cons dt_int (dtAll_cons dt_int (dtAll_cons dt_int (dtAll_cons dt_int (dtAll_cons dt_bl (dtAll_cons dt_non (dtAll_cons (dt_tup (s4 _ _ h3) (dtAll_cons dt_int dtAll_nil)) (dtAll_cons (t3.s s4) dtAll_nil)))))))))
          walk_at "rd"
          obtain ⟨w9, hw9⟩ := F3.hand.there
          refine ⟨p, l0, a4, _, rfl, ⟨(ne_of_none hw9 n4).symm, upd_same⟩, by simp, by simp, F4.hand, fun j x H5 hx hh5 k5 => ?_⟩
          obtain ⟨dn, hdn, tn⟩ := D4.get' hx
          have F5 := F4.turn hh5 k5
          have t5 := tn.k (F4.hand.fk k5)
          clear D4 hw9 hx hdn tn s4 hh5 k5 F4 F3 t3 k3 hh3 h3 F2 s2 h2 F1
          walk_at "rd"
          refine ⟨fun σ6 H6 => ∃ (v8 : Option V) (x' : V) (v10 v11 : Option V) (d' : PyData), σ6 = [some (.ref sc), some (.ref p), some (.ref o), some (.ref e), some (.int m), v0, some (.int g1), some (.int t), v8, some x', v10, v11] ∧ H6 = H5 ∧ Dt T.CP [p] H5 d' x' ∧ ∀ n : Int, d' = .int n → ¬ ((t : Int) + 1 ≤ n ∧ n ≤ t + 999), ?_, ?_⟩
          · walk_at "rd"
            refine ⟨[p], dn, x, (t : Int) + 1, (t : Int) + 999, rfl, t5, ?_⟩
            walk_at "rd"
            refine rd_ite (fun h1 => ?_) (fun h1 => ?_)
            · walk_at "rd"
              exact ⟨_, _, _, _, .int t, rfl, rfl, dt_int, fun n e => by
                cases e
                omega⟩
            · exact ⟨_, _, _, _, dn, rfl, rfl, t5, fun n e => by
                subst e
                simp [inI] at h1
                omega⟩
          · rintro σ6 H6 ⟨v8, x', v10, v11, d', rfl, rfl, t6, nb⟩
            clear t5
            walk_at "rd"
            refine rd_meth ?_
            walk_at "rd"
            obtain ⟨dz, hz⟩ := F5.inc.1
            refine ⟨e, dz, _, rfl, hz, rfl, ?_⟩
            walk_at "rd"
            refine istate_one F5.inc fun st su H7 s7 nst hst hsu => ?_
            have F7 := F5.same s7
            have t7 := t6.s s7
            have st7 : Dt T.CP [p] H7 (.tuple [.int t, .tuple []]) (.ref st) := dt_tup hst (dtAll_cons dt_int (dtAll_cons (dt_tup hsu dtAll_nil) dtAll_nil))
            clear t6 nst hst hsu hz F5
            walk_at "rd"
            refine taken_one F7.inc t7 (by simp) fun tt H8 res => ?_
            walk_at "rd"
            refine rd_iC ⟨by decide, by decide, by decide⟩ ?_
            walk_at "rd"
            have e32 : (2 : Int) ^ (32 : Int).toNat - 1 = 4294967295 := by decide
            rw [e32]
            rcases res with ⟨n, y, L, rfl, n0, n1, f8, nL, ny, ntt, nLy, ntL, nty, hi8, hy8, hL8, ht8⟩ | ⟨bad, s8, ntt, ht8⟩
            · cases dt_int' t7
              refine ⟨[], _, _, 0, 4294967295, rfl, dt_int, ?_⟩
              rw [show inI 0 4294967295 (.int n) = true by simp [inI, n0]; omega]
              walk_at "rd"
              refine rd_no rfl ?_
              walk_at "rd"
              refine rd_ite (fun h1 => ?_) (fun h1 => ?_)
              · have en : n = (t : Int) := by simpa using h1
                subst en
                rw [hear_now] at hi8 hL8
                have F8 := F7.took f8 hi8 (by omega)
                walk_at "rd"
                refine rd_disp rfl fun b1 m1 => ?_
                walk_at "rd"
                refine rd_disp rfl fun b2 m2 => ?_
                walk_at "rd"
                refine rd_disp rfl fun b3 m3 => ?_
                have u1 := same_new (o := .tup [.str "x", .int 1]) m1
                have u2 := same_new (o := .lst [.ref b1]) m2
                have u3 := same_new (o := .tup [.str "told", .ref b2]) m3
                walk_at "rd"
                refine ⟨[], .tuple [.str "told", .list [.tuple [.str "x", .int 1]]], _, _, rfl, rfl, Nat.lt_of_le_of_lt (Nat.le_of_eq rfl) (show 3 < 6 by decide), ?_, ?_, fun H9 s9 => ?_⟩
                · exact dt_tup (u3 _ _ (u2 _ _ (u1 _ _ ht8))) (dtAll_cons dt_str (dtAll_cons (dt_lst (by simp) (u3 _ _ (u2 _ _ (u1 _ _ hL8))) (dtAll_cons (dt_tup (u3 _ _ (u2 _ _ (u1 _ _ hy8))) (dtAll_cons dt_str (dtAll_cons dt_int dtAll_nil))) dtAll_nil)) dtAll_nil))
                · exact dt_tup upd_same (dtAll_cons dt_str (dtAll_cons (dt_lst (by simp) (u3 _ _ upd_same) (dtAll_cons (dt_tup (u3 _ _ (u2 _ _ upd_same)) (dtAll_cons dt_str (dtAll_cons dt_int dtAll_nil))) dtAll_nil)) dtAll_nil))
                walk_at "rd"
                refine rd_no rfl ?_
                walk_at "rd"
                refine ⟨l1, d, xs1, g1, t + 1, _, _, _, _, _, rfl, ?_, by omega⟩
                exact (((F8.same u1).same u2).same u3).same s9
              · have en : n ≠ (t : Int) := by simpa using h1
                have hn : ¬ ((t : Int) ≤ n ∧ n < t + 1000) := fun z => nb n rfl ⟨by omega, by omega⟩
                rw [hear_none hn, drain_no rfl] at hi8 hL8
                have F8 := F7.took f8 hi8 (by omega)
                walk_at "rd"
                refine rd_disp rfl fun b1 m1 => ?_
                walk_at "rd"
                refine rd_disp rfl fun b2 m2 => ?_
                have u1 := same_new (o := .lst []) m1
                have u2 := same_new (o := .tup [.str "told", .ref b1]) m2
                refine rd_eqD (CP := T.CP) (CP2 := T.CP) (M1 := []) (M2 := []) (dt_tup (u2 _ _ (u1 _ _ ht8)) (dtAll_cons dt_str (dtAll_cons (dt_lst (by simp) (u2 _ _ (u1 _ _ hL8)) dtAll_nil) dtAll_nil))) (dt_tup upd_same (dtAll_cons dt_str (dtAll_cons (dt_lst (by simp) (u2 _ _ upd_same) dtAll_nil) dtAll_nil))) sh_told0 sh_told0 ?_
                rw [ne_told0]
                walk_at "rd"
                refine rd_no rfl ?_
                walk_at "rd"
                exact ⟨l1, d, xs1, g1, t, _, _, _, _, _, rfl, (F8.same u1).same u2, by omega⟩
            · refine ⟨[p], d', x', 0, 4294967295, rfl, t7.s s8, ?_⟩
              have e0 : inI 0 4294967295 d' = false := by
                cases d' with
                | int n =>
                  simp [isNb] at bad
                  simp [inI]
                  omega
                | _ => rfl
              rw [e0]
              walk_at "rd"
              refine rd_yes rfl ?_
              walk_at "rd"
              refine rd_disp rfl fun a1 b1 => ?_
              have s1 := same_new (o := .tup [.str "NoNumber"]) b1
              have F9 := (F7.same s8).same s1
              refine rd_eqD (dt_none1 (CP := T.CP) (M := []) (s1 _ _ ht8)) (dt_none1 (CP := T.CP) (M := []) upd_same) sh_none1 sh_none1 ?_
              rw [ne_none1]
              walk_at "rd"
              refine rd_no rfl ?_
              walk_at "rd"
              refine rd_meth ?_
              walk_at "rd"
              obtain ⟨dz, hz⟩ := F9.inc.1
              refine ⟨e, dz, _, rfl, hz, rfl, ?_⟩
              walk_at "rd"
              refine istate_one F9.inc fun st2 su2 HA sA nst2 hst2 hsu2 => ?_
              walk_at "rd"
              refine ⟨[p], .tuple [.int t, .tuple []], _, _, rfl, rfl, Nat.lt_of_le_of_lt (Nat.le_of_eq rfl) (show 2 < 6 by decide), dt_tup hst2 (dtAll_cons dt_int (dtAll_cons (dt_tup hsu2 dtAll_nil) dtAll_nil)), (((st7.s s8).s s1).s sA), fun HB sB => ?_⟩
              walk_at "rd"
              refine rd_no rfl ?_
              walk_at "rd"
              exact ⟨l1, d, xs1, g1, t, _, _, _, _, _, rfl, (F9.same sA).same sB, by omega⟩
      · rintro σ H6 ⟨l, d, xs, g, t, u1, u2, u3, u4, u5, rfl, F6, ti⟩
        walk_at "rd"
        refine rd_meth ?_
        walk_at "rd"
        obtain ⟨dz, hz⟩ := F6.out.1
        refine ⟨o, dz, _, rfl, hz, rfl, ?_⟩
        walk_at "rd"
        refine ⟨o, l, g, xs, rfl, F6.out, ?_⟩
        walk_at "rd"
        rw [F6.sum]
        refine ⟨[], .int m, _, _, rfl, rfl, (by show 0 < 6; decide), dt_int, dt_int, fun H7 s7 => ?_⟩
        have F7 := F6.same s7
        walk_at "rd"
        refine rd_yes rfl ?_
        walk_at "rd"
        refine rd_meth ?_
        walk_at "rd"
        obtain ⟨dy, hy⟩ := F7.inc.1
        refine ⟨e, dy, _, rfl, hy, rfl, ?_⟩
        walk_at "rd"
        refine ⟨e, d, t, [], rfl, F7.inc, ?_⟩
        walk_at "rd"
        refine ⟨[], .int t, _, _, rfl, rfl, (by show 0 < 6; decide), dt_int, dt_int, fun H8 s8 => ?_⟩
        exact q _ (F7.same s8).old
end
end Mw

/-! X14 -/
namespace Mw
open PySem L2
def spMark2 (CP : Addr → Prop) (C : Addr) : Sp := fun vs H Q E => ∃ M d x, vs = [x] ∧ Dt CP M H d x ∧ lenD d ≤ 900000 ∧ (isRowD d = true → ∀ v H', Same H H' → Q v H') ∧ (isRowD d = false → ∀ H', Same H H' → E (.ref C) none H')
def spNoRowP (CP : Addr → Prop) (C : Addr) : Sp := fun vs H Q E => ∃ M d x, vs = [x] ∧ Dt CP M H d x ∧ lenD d ≤ 900000 ∧ isRowD d = false ∧ ∀ H', Same H H' → E (.ref C) none H'
/-- what is asked of a thing by each call: is it right? -/
def okW (i : Nat) (n : Nat) (rs : List (List Int)) (d : PyData) : Bool :=
  if i < 3 then isRowD d else if i < 5 then isPc 20 d else if i = 5 then cutB (rs.drop n) d else if i = 6 then isNb ((rs.length : Nat) + 1) d else blkB d
structure WPre (CP : Addr → Prop) (C : Addr) (H : Hp) (i : Nat) (a l : Addr) (n : Nat) (rs : List (List Int)) (M : List Addr) (d : PyData) (x : V) : Prop where
  le : i ≤ 7
  disk : DiskAt C H a l n rs
  nle : n ≤ rs.length
  few : rs.length ≤ 900
  dt : Dt CP M H d x
  len : lenD d ≤ 900000
  its : (itD d).length ≤ 1000 ∧ ∀ e ∈ itD d, lenD e ≤ 900000
  no0 : i = 0 → isRowD d = false
  no3 : i = 3 ∨ i = 4 → isPc 20 d = false ∧ szd d ≤ 900000
/-- behind what was let -/
def WPost (C : Addr) (H : Hp) (a l : Addr) (n : Nat) (rs : List (List Int)) (H' : Hp) : Prop := ∃ (l' : Addr) (n' : Nat) (rs' : List (List Int)), FK [a, l] H H' ∧ DiskAt C H' a l' n' rs' ∧ (l' = l ∨ H l' = none) ∧ n' ≤ rs'.length ∧ rs'.length ≤ rs.length + 1
theorem WPost.same {C : Addr} {H H' : Hp} {a l : Addr} {n : Nat} {rs : List (List Int)} (hd : DiskAt C H a l n rs) (hn : n ≤ rs.length) (s : Same H H') : WPost C H a l n rs H' := ⟨l, n, rs, FK.same s, hd.s s, .inl rfl, hn, by omega⟩
def clsW (i : Nat) (c1 c2 c3 c4 c5 : Addr) : Addr := if i < 3 then c1 else if i < 5 then c2 else if i = 5 then c3 else if i = 6 then c4 else c5
def spLCall (CP : Addr → Prop) (C c1 c2 c3 c4 c5 : Addr) : Sp := fun vs H Q E => ∃ (i : Nat) (a l : Addr) (n : Nat) (rs : List (List Int)) (M : List Addr) (d : PyData) (x : V), vs = [.int (i : Int), .ref a, x] ∧ WPre CP C H i a l n rs M d x ∧
  (okW i n rs d = true → ∀ H', WPost C H a l n rs H' → Q .non H') ∧ (okW i n rs d = false → ∀ H', Same H H' → E (.ref (clsW i c1 c2 c3 c4 c5)) none H')
section
variable {P : Program} {w : World} {K : PySem.W.Frag} {mg : Str → Option Value} {base : Heap}
local macro_rules | `(tactic| walk_at "rd") => `(tactic| (repeat (first
  | ((with_reducible refine' rd_var ?h0 ?_); (case h0 => rfl))
  | with_reducible refine rd_c ?_
  | with_reducible refine rd_op ?_
  | with_reducible refine rd_nil ?_
  | with_reducible refine rd_cons ?_
  | with_reducible refine rd_tup ?_
  | with_reducible refine rd_lst ?_
  | with_reducible refine rd_ifs ?_
  | with_reducible refine rd_seq ?_
  | with_reducible refine rd_next ?_
  | with_reducible refine rd_ret ?_
  | with_reducible refine rd_asg ?_
  | ((with_reducible refine' rd_gset ?hs ?_); (case hs => ((simp only [L2.start, List.map_cons, List.map_nil, List.length_cons, List.length_nil, List.cons_append, List.nil_append, List.set_cons_zero, List.set_cons_succ, Nat.reduceAdd, Nat.reduceSub, Nat.zero_add, List.reduceReplicate]); rfl)))
  | with_reducible refine rd_drop ?_
  | with_reducible refine rd_test ?_
  | with_reducible refine rd_B ?_
  | with_reducible refine rd_bl ?_
  | with_reducible refine rd_blP ?_
  | with_reducible refine rd_andV ?_
  | with_reducible refine rd_orV ?_
  | with_reducible refine rd_notV ?_
  | with_reducible refine rd_and ?_
  | with_reducible refine rd_or ?_
  | with_reducible refine rd_not ?_
  | with_reducible refine rd_chain ?_
  | with_reducible refine rd_dput ?_
  | with_reducible refine rd_dget ?_
  | with_reducible refine rd_cb ?_
  | with_reducible refine rd_call ?_
  | with_reducible refine rd_un ?_
  | with_reducible refine rd_sl ?_
  | with_reducible refine rd_nopart ?_
  | with_reducible refine rd_part ?_
  | with_reducible refine rd_intP ?_
  | with_reducible refine rd_rU ?_
  | with_reducible refine rd_fld ?_
  | with_reducible refine rd_eqI ?_
  | with_reducible refine rd_neI ?_
  | with_reducible refine rd_mko ?_
  | with_reducible refine rd_bm ?_
  | with_reducible refine rd_gsub ?_
  | with_reducible refine rd_i0 ?_)))
theorem ok_mark2 (T : Tx K mg) (B : Bk K mg T) : FnOk P w K mg base (L2.CX P w) 7 B.mark.f B.mark.fd ["row"] (spMark2 T.CP T.c_NoRow) := by
  have G_check_row := ok_check_row (P := P) (w := w) (base := base) T B
  have G_mark_of := ok_mark_of (P := P) (w := w) (base := base) T B
  refine B.mark.F.okX sc_mark (fun vs H Q E h => ?_) (fun cdv A outer s H vs Q E hr h => ?_)
  · obtain ⟨M, d, x, rfl, _⟩ := h
    rfl
  · obtain ⟨M, d, x, rfl, hdx, hl9, q, q0⟩ := h
    refine ⟨_, (pss_cons (ps_expr (pe_call G_check_row (hr.mono (by decide)) rfl B.check_row.m B.check_row.F.kp B.check_row.b .nil (passes_call (takes_of rfl rfl rfl rfl) (fun _ _ _ _ h => h)) (pa_cons (pv 0) pa_nil)))
      (pss_one (ps_ret (pe_call G_mark_of (hr.mono (by decide)) rfl B.mark_of.m B.mark_of.F.kp B.mark_of.b .nil pass0 (pa_cons (pv 0) pa_nil))))), ?_⟩
    walk_at "rd"
    refine ⟨M, d, x, rfl, hdx, hl9, fun H1 s1 => ⟨fun z => ?_, fun z => q0 z H1 s1⟩⟩
    have z0 := z
    obtain ⟨r, rfl, hb⟩ := isRow_form z
    obtain ⟨t, xs, rfl, ht0, hxs⟩ := dt_tup' hdx
    have exs := dt_ints' hxs
    subst exs
    walk_at "rd"
    exact ⟨t, r, rfl, s1 _ _ ht0, q z0 _ _ s1⟩
theorem ok_parcel_of2 (T : Tx K mg) (B : Bk K mg T) : FnOk P w K mg base (L2.CX P w) 47 B.parcel_of.f B.parcel_of.fd ["row"] (spNoRowP T.CP T.c_NoRow) := by
  have G_check_row := ok_check_row (P := P) (w := w) (base := base) T B
  have G_parcel_at := ok_pa_n (P := P) (w := w) (base := base) T B 20
  have G_BadRow_init := ok_bad_init (P := P) (w := w) (base := base) T B
  refine B.parcel_of.F.okX sc_parcel_of (fun vs H Q E h => ?_) (fun cdv A outer s H vs Q E hr h => ?_)
  · obtain ⟨M, d, x, rfl, _⟩ := h
    rfl
  · obtain ⟨M, d, x, rfl, hdx, hl9, hno, q0⟩ := h
    refine ⟨_, (pss_cons (ps_expr (pe_call G_check_row (hr.mono (by omega)) rfl B.check_row.m B.check_row.F.kp B.check_row.b .nil (passes_call (takes_of rfl rfl rfl rfl) (fun _ _ _ _ h => h)) (pa_cons (pv 0) pa_nil)))
      (pss_cons (ps_asg (pe_call G_parcel_at (hr.mono (by omega)) rfl B.parcel_at.m B.parcel_at.F.kp B.parcel_at.b .nil (passes_call (takes_of rfl rfl rfl rfl) (fun _ _ _ _ h => h)) (pa_cons (pv 0) (pa_cons pe_int (pa_cons (pe_glob (v := .int 20) (by rfl) T.g_MOST_DEEP ⟨_, rfl⟩) pa_nil)))) (pg_tup (by rfl) (pgs_cons (pg_name (i := 1) sc_parcel_of.nd rfl (Or.inl rfl)) (pgs_cons (pg_name (i := 2) sc_parcel_of.nd rfl (Or.inl rfl)) pgs_nil))))
      (pss_cons (ps_if (pt_cmpR op_lt (pv 2) (pe_callB call_len_seq (by rfl) T.b_len (by decide +kernel) (pa_cons (pv 0) pa_nil)) (nomark _)) (pss_one (ps_raise rfl (takes_of rfl rfl rfl rfl) (pmk_oex T.x_BadRow B.BadRow_init.a B.BadRow_init.t G_BadRow_init (hr.mono (by omega)) B.BadRow_init.b .nil pass0 rfl T.g_BadRow (pa_cons (pv 2) pa_nil)))) pss_nil)
      (pss_one (ps_ret (pv 1)))))), ?_⟩
    walk_at "rd"
    refine ⟨M, d, x, rfl, hdx, hl9, fun H1 s1 => ⟨fun z => ?_, fun z => q0 H1 s1⟩⟩
    rw [hno] at z
    cases z
theorem ok_law_call (T : Tx K mg) (B : Bk K mg T) : FnOk P w K mg base (L2.CX P w) 50 B.law_call.f B.law_call.fd ["which", "disk", "thing"] (spLCall T.CP T.c_Disk T.c_NoRow T.c_NoParcel T.c_NoCut T.c_NoNumber T.c_NoBlocks) := by
  have G_parcel_of := ok_parcel_of2 (P := P) (w := w) (base := base) T B
  have G_mark := ok_mark2 (P := P) (w := w) (base := base) T B
  have G_Disk_write := ok_write (P := P) (w := w) (base := base) T B
  have G_row_of := ok_row_of (P := P) (w := w) (base := base) T B
  have G_sealed := ok_sealed (P := P) (w := w) (base := base) T B
  have G_Disk_cut := ok_cut (P := P) (w := w) (base := base) T B
  have G_Disk_drop := ok_drop (P := P) (w := w) (base := base) T B
  have G_kept_parcels := ok_kept (P := P) (w := w) (base := base) T B
  refine B.law_call.F.okX sc_law_call (fun vs H Q E h => ?_) (fun cdv A outer s H vs Q E hr h => ?_)
  · obtain ⟨i, a, l, n, rs, M, d, x, rfl, _⟩ := h
    rfl
  · obtain ⟨i, a, l, n, rs, M, d, x, rfl, hw, q, q0⟩ := h
    refine ⟨_, (pss_one (ps_if (pt_cmpR op_eq (pv 0) pe_int (nomark _)) (pss_one (ps_expr (pe_call G_parcel_of (hr.mono (by omega)) rfl B.parcel_of.m B.parcel_of.F.kp B.parcel_of.b .nil (passes_call (takes_of rfl rfl rfl rfl) (fun _ _ _ _ h => h)) (pa_cons (pv 2) pa_nil)))) (pss_one (ps_if (pt_cmpR op_eq (pv 0) pe_int (nomark _)) (pss_one (ps_expr (pe_call G_mark (hr.mono (by omega)) rfl B.mark.m B.mark.F.kp B.mark.b .nil (passes_call (takes_of rfl rfl rfl rfl) (fun _ _ _ _ h => h)) (pa_cons (pv 2) pa_nil)))) (pss_one (ps_if (pt_cmpR op_eq (pv 0) pe_int (nomark _)) (pss_one (ps_expr (pe_meth (pv 1) T.W_Disk.cl ⟨B.Disk_write.a, B.Disk_write.i, B.Disk_write.F.kp⟩ G_Disk_write (hr.mono (by omega)) B.Disk_write.b .nil (passes_call (takes_of rfl rfl rfl rfl) (fun _ _ _ _ h => h)) (pa_cons (pv 2) pa_nil)))) (pss_one (ps_if (pt_cmpR op_eq (pv 0) pe_int (nomark _)) (pss_one (ps_expr (pe_call G_row_of (hr.mono (by omega)) rfl B.row_of.m B.row_of.F.kp B.row_of.b .nil (passes_call (takes_of rfl rfl rfl rfl) (fun _ _ _ _ h => h)) (pa_cons (pv 2) pa_nil)))) (pss_one (ps_if (pt_cmpR op_eq (pv 0) pe_int (nomark _)) (pss_one (ps_expr (pe_call G_sealed (hr.mono (by omega)) rfl B.sealed.m B.sealed.F.kp B.sealed.b .nil (passes_call (takes_of rfl rfl rfl rfl) (fun _ _ _ _ h => h)) (pa_cons (pv 2) pa_nil)))) (pss_one (ps_if (pt_cmpR op_eq (pv 0) pe_int (nomark _)) (pss_one (ps_expr (pe_meth (pv 1) T.W_Disk.cl ⟨B.Disk_cut.a, B.Disk_cut.i, B.Disk_cut.F.kp⟩ G_Disk_cut (hr.mono (by omega)) B.Disk_cut.b .nil (passes_call (takes_of rfl rfl rfl rfl) (fun _ _ _ _ h => h)) (pa_cons (pv 2) pa_nil)))) (pss_one (ps_if (pt_cmpR op_eq (pv 0) pe_int (nomark _)) (pss_one (ps_expr (pe_meth (pv 1) T.W_Disk.cl ⟨B.Disk_drop.a, B.Disk_drop.i, B.Disk_drop.F.kp⟩ G_Disk_drop (hr.mono (by omega)) B.Disk_drop.b .nil (passes_call (takes_of rfl rfl rfl rfl) (fun _ _ _ _ h => h)) (pa_cons (pv 2) pa_nil)))) (pss_one (ps_expr (pe_call G_kept_parcels (hr.mono (by omega)) rfl B.kept_parcels.m B.kept_parcels.F.kp B.kept_parcels.b .nil (passes_call (takes_of rfl rfl rfl rfl) (fun _ _ _ _ h => h)) (pa_cons (pv 2) pa_nil)))))))))))))))))), ?_⟩
    obtain ⟨⟨dz, hz⟩, _⟩ := id hw.disk
    have q1 : okW i n rs d = true → ∀ H', Same H H' → Q .non H' := fun z H' s => q z H' (.same hw.disk hw.nle s)
    match i, hw, q, q0, q1 with
    | 0, hw, q, q0, q1 =>
      walk_at "rd"
      refine rd_yes rfl ?_
      walk_at "rd"
      exact ⟨M, d, x, rfl, hw.dt, hw.len, hw.no0 rfl, q0 (hw.no0 rfl)⟩
    | 1, hw, q, q0, q1 =>
      walk_at "rd"
      refine rd_no rfl ?_
      walk_at "rd"
      refine rd_yes rfl ?_
      walk_at "rd"
      exact ⟨M, d, x, rfl, hw.dt, hw.len, fun z v H' s => q1 z H' s, q0⟩
    | 2, hw, q, q0, q1 =>
      walk_at "rd"
      refine rd_no rfl ?_
      walk_at "rd"
      refine rd_no rfl ?_
      walk_at "rd"
      refine rd_yes rfl ?_
      walk_at "rd"
      refine rd_meth ?_
      walk_at "rd"
      refine ⟨a, dz, _, rfl, hz, rfl, ?_⟩
      walk_at "rd"
      refine ⟨a, l, n, rs, M, d, x, rfl, hw.disk, hw.dt, hw.len, by have := hw.few; omega, fun r H' e hb f hd => ?_, q0⟩
      subst e
      exact q (row_isD hb) H' ⟨l, n, _, f.more (by simp), hd, .inl rfl, by have := hw.nle; simp; omega, by simp⟩
    | 3, hw, q, q0, q1 =>
      walk_at "rd"
      refine rd_no rfl ?_
      walk_at "rd"
      refine rd_no rfl ?_
      walk_at "rd"
      refine rd_no rfl ?_
      walk_at "rd"
      refine rd_yes rfl ?_
      walk_at "rd"
      obtain ⟨n1, n2⟩ := hw.no3 (.inl rfl)
      exact ⟨M, d, x, rfl, hw.dt, n2, (fun z => by rw [n1] at z; cases z), (fun z => by rw [n1] at z; cases z), q0⟩
    | 4, hw, q, q0, q1 =>
      walk_at "rd"
      refine rd_no rfl ?_
      walk_at "rd"
      refine rd_no rfl ?_
      walk_at "rd"
      refine rd_no rfl ?_
      walk_at "rd"
      refine rd_no rfl ?_
      walk_at "rd"
      refine rd_yes rfl ?_
      walk_at "rd"
      obtain ⟨n1, n2⟩ := hw.no3 (.inr rfl)
      exact ⟨M, d, x, rfl, hw.dt, n2, (fun z => by rw [n1] at z; cases z), (fun z => by rw [n1] at z; cases z), q0⟩
    | 5, hw, q, q0, q1 =>
      walk_at "rd"
      refine rd_no rfl ?_
      walk_at "rd"
      refine rd_no rfl ?_
      walk_at "rd"
      refine rd_no rfl ?_
      walk_at "rd"
      refine rd_no rfl ?_
      walk_at "rd"
      refine rd_no rfl ?_
      walk_at "rd"
      refine rd_yes rfl ?_
      walk_at "rd"
      refine rd_meth ?_
      walk_at "rd"
      refine ⟨a, dz, _, rfl, hz, rfl, ?_⟩
      walk_at "rd"
      refine ⟨a, l, n, rs, M, d, x, rfl, hw.disk, hw.nle, by have := hw.few; omega, hw.dt, fun z l' qs H' f nl nla hd hq => ?_, q0⟩
      exact q z H' ⟨l', _, _, f.more (by simp), hd, .inr nl, by omega, by omega⟩
    | 6, hw, q, q0, q1 =>
      walk_at "rd"
      refine rd_no rfl ?_
      walk_at "rd"
      refine rd_no rfl ?_
      walk_at "rd"
      refine rd_no rfl ?_
      walk_at "rd"
      refine rd_no rfl ?_
      walk_at "rd"
      refine rd_no rfl ?_
      walk_at "rd"
      refine rd_no rfl ?_
      walk_at "rd"
      refine rd_yes rfl ?_
      walk_at "rd"
      refine rd_meth ?_
      walk_at "rd"
      refine ⟨a, dz, _, rfl, hz, rfl, ?_⟩
      walk_at "rd"
      refine ⟨a, l, n, rs, M, d, x, rfl, hw.disk, hw.dt, fun k l' H' e hk f nl nla hd => ?_, q0⟩
      subst e
      refine q ?_ H' ⟨l', _, _, f.more (by simp), hd, .inr nl, by rw [List.length_take]; omega, by rw [List.length_take]; omega⟩
      show (decide ((0 : Int) ≤ (k : Int)) && decide ((k : Int) < (rs.length : Nat) + 1)) = true
      rw [decide_eq_true (by omega), decide_eq_true (by omega)]
      rfl
    | 7, hw, q, q0, q1 =>
      walk_at "rd"
      refine rd_no rfl ?_
      walk_at "rd"
      refine rd_no rfl ?_
      walk_at "rd"
      refine rd_no rfl ?_
      walk_at "rd"
      refine rd_no rfl ?_
      walk_at "rd"
      refine rd_no rfl ?_
      walk_at "rd"
      refine rd_no rfl ?_
      walk_at "rd"
      refine rd_no rfl ?_
      walk_at "rd"
      exact ⟨M, d, x, rfl, hw.dt, hw.its.1, hw.its.2, fun z v H' s => q1 z H' s, q0⟩
    | k + 8, hw, q, q0, q1 => 
      have := hw.le
      omega
end
end Mw

/-! X15 -/
namespace Mw
open PySem L2
section
variable {P : Program} {w : World} {K : PySem.W.Frag} {mg : Str → Option Value} {base : Heap}
def clJ (T : Tx K mg) : Nat → Addr
  | 0 => T.c_NoRow
  | 1 => T.c_NoParcel
  | 2 => T.c_NoCut
  | 3 => T.c_NoNumber
  | _ => T.c_NoBlocks
def nmJ : Nat → Str
  | 0 => "row"
  | 1 => "parcel"
  | 2 => "cut"
  | 3 => "number"
  | _ => "blocks"
theorem xcJ (T : Tx K mg) : ∀ j, ExcC K (clJ T j)
  | 0 => T.xc_NoRow
  | 1 => T.xc_NoParcel
  | 2 => T.xc_NoCut
  | 3 => T.xc_NoNumber
  | _ + 4 => T.xc_NoBlocks
theorem q0J (T : Tx K mg) : ∀ j, j < 5 → PySem.W.kitOne K (.ref (clJ T j)) (.ref T.c_NoRow) = some (decide (j = 0))
  | 0, _ => T.q_NoRowNoRow
  | 1, _ => T.q_NoParcelNoRow
  | 2, _ => T.q_NoCutNoRow
  | 3, _ => T.q_NoNumberNoRow
  | 4, _ => T.q_NoBlocksNoRow
theorem q1J (T : Tx K mg) : ∀ j, j < 5 → PySem.W.kitOne K (.ref (clJ T j)) (.ref T.c_NoParcel) = some (decide (j = 1))
  | 0, _ => T.q_NoRowNoParcel
  | 1, _ => T.q_NoParcelNoParcel
  | 2, _ => T.q_NoCutNoParcel
  | 3, _ => T.q_NoNumberNoParcel
  | 4, _ => T.q_NoBlocksNoParcel
theorem q2J (T : Tx K mg) : ∀ j, j < 5 → PySem.W.kitOne K (.ref (clJ T j)) (.ref T.c_NoCut) = some (decide (j = 2))
  | 0, _ => T.q_NoRowNoCut
  | 1, _ => T.q_NoParcelNoCut
  | 2, _ => T.q_NoCutNoCut
  | 3, _ => T.q_NoNumberNoCut
  | 4, _ => T.q_NoBlocksNoCut
theorem q3J (T : Tx K mg) : ∀ j, j < 5 → PySem.W.kitOne K (.ref (clJ T j)) (.ref T.c_NoNumber) = some (decide (j = 3))
  | 0, _ => T.q_NoRowNoNumber
  | 1, _ => T.q_NoParcelNoNumber
  | 2, _ => T.q_NoCutNoNumber
  | 3, _ => T.q_NoNumberNoNumber
  | 4, _ => T.q_NoBlocksNoNumber
theorem q4J (T : Tx K mg) : ∀ j, j < 5 → PySem.W.kitOne K (.ref (clJ T j)) (.ref T.c_NoBlocks) = some (decide (j = 4))
  | 0, _ => T.q_NoRowNoBlocks
  | 1, _ => T.q_NoParcelNoBlocks
  | 2, _ => T.q_NoCutNoBlocks
  | 3, _ => T.q_NoNumberNoBlocks
  | 4, _ => T.q_NoBlocksNoBlocks
theorem qvJ (T : Tx K mg) : ∀ j, PySem.W.kitOne K (.ref (clJ T j)) (.type "ValueError") = some true
  | 0 => T.q_NoRowVe
  | 1 => T.q_NoParcelVe
  | 2 => T.q_NoCutVe
  | 3 => T.q_NoNumberVe
  | _ + 4 => T.q_NoBlocksVe
theorem rsJ (T : Tx K mg) : ∀ j, PySem.W.exmOne K (.ref (clJ T j)) (.ref T.c_StreamError) = some true
  | 0 => T.r_NoRowStream
  | 1 => T.r_NoParcelStream
  | 2 => T.r_NoCutStream
  | 3 => T.r_NoNumberStream
  | _ + 4 => T.r_NoBlocksStream
def spLName (T : Tx K mg) : SpE := fun a c d vs H Q _ => ∃ j : Nat, j < 5 ∧ vs = [.ref a] ∧ d = none ∧ c = .ref (clJ T j) ∧ ∀ H', Same H H' → Q (.str (nmJ j)) H'
local macro_rules | `(tactic| walk_at "rd") => `(tactic| (repeat (first
  | ((with_reducible refine' rd_var ?h0 ?_); (case h0 => rfl))
  | with_reducible refine rd_c ?_
  | with_reducible refine rd_op ?_
  | with_reducible refine rd_nil ?_
  | with_reducible refine rd_cons ?_
  | with_reducible refine rd_tup ?_
  | with_reducible refine rd_lst ?_
  | with_reducible refine rd_ifs ?_
  | with_reducible refine rd_seq ?_
  | with_reducible refine rd_next ?_
  | with_reducible refine rd_ret ?_
  | with_reducible refine rd_asg ?_
  | ((with_reducible refine' rd_gset ?hs ?_); (case hs => ((simp only [L2.start, List.map_cons, List.map_nil, List.length_cons, List.length_nil, List.cons_append, List.nil_append, List.set_cons_zero, List.set_cons_succ, Nat.reduceAdd, Nat.reduceSub, Nat.zero_add, List.reduceReplicate]); rfl)))
  | with_reducible refine rd_drop ?_
  | with_reducible refine rd_test ?_
  | with_reducible refine rd_B ?_
  | with_reducible refine rd_bl ?_
  | with_reducible refine rd_blP ?_
  | with_reducible refine rd_andV ?_
  | with_reducible refine rd_orV ?_
  | with_reducible refine rd_notV ?_
  | with_reducible refine rd_and ?_
  | with_reducible refine rd_or ?_
  | with_reducible refine rd_not ?_
  | with_reducible refine rd_chain ?_
  | with_reducible refine rd_dput ?_
  | with_reducible refine rd_dget ?_
  | with_reducible refine rd_cb ?_
  | with_reducible refine rd_call ?_
  | with_reducible refine rd_un ?_
  | with_reducible refine rd_sl ?_
  | with_reducible refine rd_nopart ?_
  | with_reducible refine rd_part ?_
  | with_reducible refine rd_intP ?_
  | with_reducible refine rd_rU ?_
  | with_reducible refine rd_fld ?_
  | with_reducible refine rd_eqI ?_
  | with_reducible refine rd_neI ?_
  | with_reducible refine rd_mko ?_
  | with_reducible refine rd_bm ?_
  | with_reducible refine rd_gsub ?_
  | with_reducible refine rd_i0 ?_)))
theorem ok_law_name (T : Tx K mg) (B : Bk K mg T) : FnE P w K mg base 1 B.law_name.f B.law_name.fd ["error"] (spLName T) := by
  refine okE B.law_name.F sc_law_name (fun a c d vs H Q E h => ?_) (fun p c d cdv A outer s H vs Q E hz hf hr h => ?_)
  · obtain ⟨j, _, rfl, _⟩ := h
    rfl
  · obtain ⟨j, hj, rfl, rfl, rfl, q⟩ := h
    have hpn : p ∈ [p] := List.mem_cons_self
    refine ⟨_, (pss_cons (ps_set (i := 1) sc_law_name.nd rfl (Or.inl rfl) (pe_lst (pa_cons (pe_callB (call_isP hpn hz hf) (by rfl) T.b_isinstance (by decide +kernel) (pa_cons (pv 0) (pa_cons (pe_glob (v := .ref T.c_NoRow) (by rfl) T.g_NoRow rfl) pa_nil))) (pa_cons (pe_callB (call_isP hpn hz hf) (by rfl) T.b_isinstance (by decide +kernel) (pa_cons (pv 0) (pa_cons (pe_glob (v := .ref T.c_NoParcel) (by rfl) T.g_NoParcel rfl) pa_nil))) (pa_cons (pe_callB (call_isP hpn hz hf) (by rfl) T.b_isinstance (by decide +kernel) (pa_cons (pv 0) (pa_cons (pe_glob (v := .ref T.c_NoCut) (by rfl) T.g_NoCut rfl) pa_nil))) pa_nil)))))
      (pss_cons (ps_set (i := 1) sc_law_name.nd rfl (Or.inl rfl) (pe_op op_cat (pv 1) (pe_lst (pa_cons (pe_callB (call_isP hpn hz hf) (by rfl) T.b_isinstance (by decide +kernel) (pa_cons (pv 0) (pa_cons (pe_glob (v := .ref T.c_NoNumber) (by rfl) T.g_NoNumber rfl) pa_nil))) (pa_cons (pe_callB (call_isP hpn hz hf) (by rfl) T.b_isinstance (by decide +kernel) (pa_cons (pv 0) (pa_cons (pe_glob (v := .ref T.c_NoBlocks) (by rfl) T.g_NoBlocks rfl) pa_nil))) pa_nil)))))
      (pss_cons (ps_if (PW.pt (pw_or (pt_cmpR op_ne (pe_bm PySem.F.plainAttrs_list PySem.F.slot_list_count PySem.F.type_list_count mt_lcountF (pv 1) (pa_cons pe_bl pa_nil)) pe_int (nomark _)) (pw_or1 (pt_not (pt_val (pe_callB (call_isP hpn hz hf) (by rfl) T.b_isinstance (by decide +kernel) (pa_cons (pv 0) (pa_cons (pe_bltn (v := .ty "ValueError") (by rfl) T.b_ValueError (by decide +kernel) rfl) pa_nil)))))))) (pss_one (ps_ret pe_str)) pss_nil)
      (pss_one (ps_ret (pe_ix ix_list (pe_lst (pa_cons pe_str (pa_cons pe_str (pa_cons pe_str (pa_cons pe_str (pa_cons pe_str pa_nil)))))) (pe_bm PySem.F.plainAttrs_list PySem.F.slot_list_index PySem.F.type_list_index mt_index (pv 1) (pa_cons pe_bl pa_nil)) (fun _ _ => rfl))))))), ?_⟩
    walk_at "rd"
    refine ⟨clJ T j, _, _, _, rfl, rfl, xcJ T j, .inl rfl, .own _, q0J T j hj, ?_⟩
    walk_at "rd"
    refine ⟨clJ T j, _, _, _, rfl, rfl, xcJ T j, .inl rfl, .own _, q1J T j hj, ?_⟩
    walk_at "rd"
    refine ⟨clJ T j, _, _, _, rfl, rfl, xcJ T j, .inl rfl, .own _, q2J T j hj, ?_⟩
    walk_at "rd"
    refine rd_disp rfl fun a1 n1 => ?_
    walk_at "rd"
    refine ⟨clJ T j, _, _, _, rfl, rfl, xcJ T j, .inl rfl, .own _, q3J T j hj, ?_⟩
    walk_at "rd"
    refine ⟨clJ T j, _, _, _, rfl, rfl, xcJ T j, .inl rfl, .own _, q4J T j hj, ?_⟩
    walk_at "rd"
    refine rd_disp rfl fun a2 n2 => ?_
    have s1 := same_new (o := .lst [.bl (decide (j = 0)), .bl (decide (j = 1)), .bl (decide (j = 2))]) n1
    have s2 := same_new (o := .lst [.bl (decide (j = 3)), .bl (decide (j = 4))]) n2
    walk_at "rd"
    refine ⟨a1, a2, _, _, rfl, rfl, s2 _ _ upd_same, upd_same, small (by simp), fun a3 n3 => ?_⟩
    have s3 := same_new (o := .lst ([.bl (decide (j = 0)), .bl (decide (j = 1)), .bl (decide (j = 2))] ++ [.bl (decide (j = 3)), .bl (decide (j = 4))])) n3
    walk_at "rd"
    refine ⟨.inl ⟨rfl, _, SqL.of upd_same⟩, ?_⟩
    walk_at "rd"
    refine ⟨a3, _, .bl true, rfl, rfl, SqL.of upd_same, rfl, rfl, ?_⟩
    have ec : List.countP (fun z => eqV z (V.bl true)) ([.bl (decide (j = 0)), .bl (decide (j = 1)), .bl (decide (j = 2))] ++ [.bl (decide (j = 3)), .bl (decide (j = 4))]) = 1 := by
      match j, hj with
      | 0, _ => rfl
      | 1, _ => rfl
      | 2, _ => rfl
      | 3, _ => rfl
      | 4, _ => rfl
    rw [ec]
    walk_at "rd"
    refine rd_no rfl ?_
    walk_at "rd"
    refine ⟨clJ T j, _, _, _, rfl, rfl, xcJ T j, .inl rfl, .ty _, qvJ T j, ?_⟩
    walk_at "rd"
    refine rd_no rfl ?_
    walk_at "rd"
    refine rd_disp rfl fun a4 n4 => ?_
    have s4 := same_new (o := .lst [.str "row", .str "parcel", .str "cut", .str "number", .str "blocks"]) n4
    refine rd_bm ?_
    walk_at "rd"
    refine ⟨.inl ⟨rfl, _, SqL.of (s4 _ _ upd_same)⟩, ?_⟩
    walk_at "rd"
    have S := ((s1.trans s2).trans s3).trans s4
    have fin : ∀ z : V, atI [V.str "row", .str "parcel", .str "cut", .str "number", .str "blocks"] (j : Int) = some z → z = .str (nmJ j) := by
      intro z hz
      match j, hj, hz with
      | 0, _, hz => exact (Option.some.inj hz).symm
      | 1, _, hz => exact (Option.some.inj hz).symm
      | 2, _, hz => exact (Option.some.inj hz).symm
      | 3, _, hz => exact (Option.some.inj hz).symm
      | 4, _, hz => exact (Option.some.inj hz).symm
    have ej : ([.bl (decide (j = 0)), .bl (decide (j = 1)), .bl (decide (j = 2))] ++ [.bl (decide (j = 3)), .bl (decide (j = 4))] : List V)[j]? = some (.bl true) := by
      match j, hj with
      | 0, _ => rfl
      | 1, _ => rfl
      | 2, _ => rfl
      | 3, _ => rfl
      | 4, _ => rfl
    have el : ∀ (m : Nat) (z : V), m < j → ([.bl (decide (j = 0)), .bl (decide (j = 1)), .bl (decide (j = 2))] ++ [.bl (decide (j = 3)), .bl (decide (j = 4))] : List V)[m]? = some z → eqV z (.bl true) = false := by
      intro m z hm hz
      have hm4 : m < 4 := by omega
      match m, hm4 with
      | 0, _ =>
        rw [← Option.some.inj hz, decide_eq_false (by omega : ¬ j = 0)]
        rfl
      | 1, _ =>
        rw [← Option.some.inj hz, decide_eq_false (by omega : ¬ j = 1)]
        rfl
      | 2, _ =>
        rw [← Option.some.inj hz, decide_eq_false (by omega : ¬ j = 2)]
        rfl
      | 3, _ =>
        rw [← Option.some.inj hz, decide_eq_false (by omega : ¬ j = 3)]
        rfl
    refine ⟨a3, _, .bl true, j, .bl true, rfl, rfl, SqL.of (s4 _ _ upd_same), rfl, rfl, ej, rfl, el, ?_⟩
    have hz : ∃ z, atI [V.str "row", .str "parcel", .str "cut", .str "number", .str "blocks"] (j : Int) = some z := by
      match j, hj with
      | 0, _ => exact ⟨_, rfl⟩
      | 1, _ => exact ⟨_, rfl⟩
      | 2, _ => exact ⟨_, rfl⟩
      | 3, _ => exact ⟨_, rfl⟩
      | 4, _ => exact ⟨_, rfl⟩
    obtain ⟨z, hz⟩ := hz
    have e2 := fin z hz
    subst e2
    exact rd_ixL upd_same hz (q _ S)
end
end Mw

/-! X16 -/
namespace Mw
open PySem L2
def jW (i : Nat) : Nat := if i < 3 then 0 else if i < 5 then 1 else if i = 5 then 2 else if i = 6 then 3 else 4
section
variable {P : Program} {w : World} {K : PySem.W.Frag} {mg : Str → Option Value} {base : Heap}
theorem clsW_j (T : Tx K mg) : ∀ i, clsW i T.c_NoRow T.c_NoParcel T.c_NoCut T.c_NoNumber T.c_NoBlocks = clJ T (jW i)
  | 0 => rfl
  | 1 => rfl
  | 2 => rfl
  | 3 => rfl
  | 4 => rfl
  | 5 => rfl
  | 6 => rfl
  | k + 7 => by
    unfold clsW jW
    rw [if_neg (by omega), if_neg (by omega), if_neg (by omega), if_neg (by omega), if_neg (by omega), if_neg (by omega), if_neg (by omega), if_neg (by omega)]
    rfl
theorem jW_lt (i : Nat) : jW i < 5 := by
  unfold jW
  repeat (first | split | omega)
def spLWord (CP : Addr → Prop) (C : Addr) : Sp := fun vs H Q _ => ∃ (i : Nat) (a l : Addr) (n : Nat) (rs : List (List Int)) (M : List Addr) (d : PyData) (x : V), vs = [.int (i : Int), .ref a, x] ∧ WPre CP C H i a l n rs M d x ∧
  (okW i n rs d = true → ∀ H', WPost C H a l n rs H' → Q (.str "let") H') ∧ (okW i n rs d = false → ∀ H', Same H H' → Q (.str (nmJ (jW i))) H')
local macro_rules | `(tactic| walk_at "rd") => `(tactic| (repeat (first
  | ((with_reducible refine' rd_var ?h0 ?_); (case h0 => rfl))
  | with_reducible refine rd_c ?_
  | with_reducible refine rd_op ?_
  | with_reducible refine rd_nil ?_
  | with_reducible refine rd_cons ?_
  | with_reducible refine rd_tup ?_
  | with_reducible refine rd_lst ?_
  | with_reducible refine rd_ifs ?_
  | with_reducible refine rd_seq ?_
  | with_reducible refine rd_next ?_
  | with_reducible refine rd_ret ?_
  | with_reducible refine rd_asg ?_
  | ((with_reducible refine' rd_gset ?hs ?_); (case hs => ((simp only [L2.start, List.map_cons, List.map_nil, List.length_cons, List.length_nil, List.cons_append, List.nil_append, List.set_cons_zero, List.set_cons_succ, Nat.reduceAdd, Nat.reduceSub, Nat.zero_add, List.reduceReplicate]); rfl)))
  | with_reducible refine rd_drop ?_
  | with_reducible refine rd_test ?_
  | with_reducible refine rd_B ?_
  | with_reducible refine rd_bl ?_
  | with_reducible refine rd_blP ?_
  | with_reducible refine rd_andV ?_
  | with_reducible refine rd_orV ?_
  | with_reducible refine rd_notV ?_
  | with_reducible refine rd_and ?_
  | with_reducible refine rd_or ?_
  | with_reducible refine rd_not ?_
  | with_reducible refine rd_chain ?_
  | with_reducible refine rd_dput ?_
  | with_reducible refine rd_dget ?_
  | with_reducible refine rd_cb ?_
  | with_reducible refine rd_call ?_
  | with_reducible refine rd_un ?_
  | with_reducible refine rd_sl ?_
  | with_reducible refine rd_nopart ?_
  | with_reducible refine rd_part ?_
  | with_reducible refine rd_intP ?_
  | with_reducible refine rd_rU ?_
  | with_reducible refine rd_fld ?_
  | with_reducible refine rd_eqI ?_
  | with_reducible refine rd_neI ?_
  | with_reducible refine rd_mko ?_
  | with_reducible refine rd_bm ?_
  | with_reducible refine rd_gsub ?_
  | with_reducible refine rd_i0 ?_)))
theorem ok_law_word (T : Tx K mg) (B : Bk K mg T) : FnOk P w K mg base CX0 51 B.law_word.f B.law_word.fd ["which", "disk", "thing"] (spLWord T.CP T.c_Disk) := by
  have G_law_call := ok_law_call (P := P) (w := w) (base := base) T B
  have G_law_name := ok_law_name (P := P) (w := w) (base := base) T B
  refine B.law_word.F.ok sc_law_word (fun vs H Q E h => ?_) (fun cdv A outer s H vs Q E hr h => ?_)
  · obtain ⟨i, a, l, n, rs, M, d, x, rfl, _⟩ := h
    rfl
  · obtain ⟨i, a, l, n, rs, M, d, x, rfl, hw, q, q0⟩ := h
    refine ⟨_, (pss_cons (ps_set (i := 3) sc_law_word.nd rfl (Or.inl rfl) pe_str)
      (pss_cons (ps_try_as (i := 4) (tb := fun W => tDrop (tCallS (spLCall T.CP T.c_Disk T.c_NoRow T.c_NoParcel T.c_NoCut T.c_NoNumber T.c_NoBlocks) (WE W) (tCons (tVar 0) (tCons (tVar 1) (tCons (tVar 2) tNil))))) (ts := fun a cls d => tAsg (tCallS (spLName T a cls d) (fun _ => E0) (tCons (tVar 4) tNil)) (gName 3)) (Wout := fun _ _ _ _ => False) rfl rfl sc_law_word.nd rfl rfl ⟨by rfl, by decide, Or.inl T.g_StreamError⟩ takes0 (fun W pn xe tk _ => (pss_one (ps_expr (pe_callS G_law_call (hr.mono (by omega)) rfl B.law_call.m B.law_call.F.kp B.law_call.b (fun σ => passAt tk σ) (pa_cons (pv 0) (pa_cons (pv 1) (pa_cons (pv 2) pa_nil))))))) (fun a oe cls d pn hz hf => (pss_one (ps_set (i := 3) sc_law_word.nd rfl (Or.inl rfl) (pe_callE G_law_name (roomE hr (by decide)) (List.mem_cons_self) hz hf rfl B.law_name.m B.law_name.F.kp B.law_name.b (pa_cons (pv 4) pa_nil))))))
      (pss_one (ps_ret (pv 3))))), ?_⟩
    walk_at "rd"
    refine rd_callS ?_
    walk_at "rd"
    refine ⟨i, a, l, n, rs, M, d, x, rfl, hw, fun z H' p => ?_, fun z H' s1 => ?_⟩
    · walk_at "rd"
      exact q z H' p
    · refine ⟨true, by rw [clsW_j]; exact rsJ T _, fun _ b hb => ?_, fun z => by cases z⟩
      walk_at "rd"
      refine rd_callS ?_
      walk_at "rd"
      refine ⟨jW i, jW_lt i, rfl, rfl, by rw [clsW_j], fun H2 s2 => ?_⟩
      walk_at "rd"
      exact q0 z H2 (s1.trans s2)
end
end Mw

/-! MR17 -/
/-! zip of a tuple and a list. -/
namespace L2
open PySem PySem.Spec PyProof.Rows
/-- a zip at z over a tuple's walk at i and a list's walk at j; the pair of walks at p, the last pair at o -/
structure Tz (h : Heap) (z p o i j a b : Addr) (n : Nat) (f : Value) : Prop where
  hz : IsZip h z p o f
  hp : IsPair h p (.ref i) (.ref j)
  ho : ∃ u v, IsPair h o u v
  hi : h.IsTupleIter i a n
  hj : h.IsListIter j b n
theorem Tz.at {h h' : Heap} {z p o i j a b : Addr} {n : Nat} {f : Value} (m : Tz h z p o i j a b n f) (k : ∀ c, c ∈ [z, p, o, i, j] → ∀ t, h.get? c = some t → h'.get? c = some t) : Tz h' z p o i j a b n f := by
  obtain ⟨m1, m2, ⟨u, v, m3⟩, m4, m5⟩ := m
  exact ⟨k z (by simp) _ m1, k p (by simp) _ m2, ⟨u, v, k o (by simp) _ m3⟩, m4.at fun t e => k i (by simp) t e, m5.at fun t e => k j (by simp) t e⟩
section
variable {prog : Program} {w : World} {A : Around} {E : Value → Shared → Prop} {s : Shared} {z p o i j a b : Addr} {n : Nat} {xs ys : Array Value}
theorem tz_step {x y : Value} {Q : Value → Shared → Prop} (D : ZipApart z p o i j a b) (m : Tz s.heap z p o i j a b n .none) (ha : s.heap.IsTuple a xs) (hb : s.heap.IsList b ys) (ex : xs[n]? = some x) (ey : ys[n]? = some y)
    (q : ∀ h', Tz h' z p o i j a b (n + 1) (rawInt s.heap.objs.size) → IsPair h' s.heap.objs.size x y → (∀ c t, c ∉ [z, o, i, j] → s.heap.get? c = some t → h'.get? c = some t) → Q (.ref s.heap.objs.size) { s with heap := h' }) :
    wpAny (model prog w) A (Builtin.«zip.__next__» ⟨[.ref z], []⟩) (fun r s1 => ∃ v, r = .done (.ret v) ∧ Q v s1) E s := by
  obtain ⟨mz, mp, ⟨u, v, mo⟩, mi, mj⟩ := m
  show wpAny _ _ (field (.ref z) 2 >>= _) _ _ _
  refine wpAny_bind (wpAny_field mz rfl (x := .bool false) rfl ?_)
  show wpAny _ _ (field (.ref z) 3 >>= _) _ _ _
  refine wpAny_bind (wpAny_field mz rfl (x := .ref p) rfl (wpAny_bind (wpAny_seqItems mp rfl ?_)))
  show wpAny _ _ (Builtin.SmallTypes.ownedTupleIsFree (.ref z) >>= _) _ _ _
  unfold Builtin.SmallTypes.ownedTupleIsFree
  refine wpAny_bind (wpAny_bind (wpAny_field mz rfl (x := .none) rfl (wpAny_pure ?_)))
  simp only [if_true]
  refine wpAny_bind (wpAny_rule (wpAny_bind (wpAny_field mz rfl (x := .ref o) rfl (wpAny_bind (wpAny_setField_rec mz (by simp) fun g1 z1 k1 => ?_)))))
  replace z1 : IsZip g1 z p o .ellipsis := z1
  simp only [List.zipIdx_cons, List.zipIdx_nil, List.forIn_cons, List.forIn_nil]
  refine wpAny_bind (wpAny_bind (wpAny_bind (wpAny_onRaise ?_)))
  show wpAny _ _ (Builtin.SmallTypes.nextOf (.ref i) >>= _) _ _ _
  refine wpAny_bind (RZ.nextOf_tuple_item (mi.extBut k1.extBut D.i1z) (ha.extBut k1.extBut D.l1z) ex fun g2 i2 k2 => wpAny_pure ?_)
  have o2 : IsPair g2 o u v := k2.extBut _ _ D.TOi1 (k1.extBut _ _ D.TOz mo)
  refine wpAny_bind (wpAny_seqItems o2 rfl (wpAny_bind (wpAny_updateSeq_pair o2 fun g3 o3 k3 => wpAny_bind (wpAny_letGo (wpAny_pure ?_)))))
  replace o3 : IsPair g3 o x v := o3
  refine wpAny_bind (wpAny_bind (wpAny_onRaise ?_))
  show wpAny _ _ (Builtin.SmallTypes.nextOf (.ref j) >>= _) _ _ _
  refine wpAny_bind (wpAny_nextOf_list_item (((mj.extBut k1.extBut D.i2z).extBut k2.extBut D.i12.symm).extBut k3.extBut D.TOi2.symm) (((hb.extBut k1.extBut D.l2z).extBut k2.extBut D.l2i1).extBut k3.extBut D.l2TO) ey fun g4 j4 k4 => wpAny_pure ?_)
  have o4 : IsPair g4 o x v := k4.extBut _ _ D.TOi2 o3
  refine wpAny_bind (wpAny_seqItems o4 rfl (wpAny_bind (wpAny_updateSeq_pair o4 fun g5 o5 k5 => wpAny_bind (wpAny_letGo (wpAny_pure (wpAny_pure ?_))))))
  replace o5 : IsPair g5 o x y := o5
  refine wpAny_bind (wpAny_seqItems o5 rfl (wpAny_bind (wpAny_newTuple ?_)))
  have sz : g5.objs.size = s.heap.objs.size := by rw [k5.1, k4.1, k3.1, k2.1, k1.1]
  have z5 : IsZip g5 z p o .ellipsis := k5.extBut _ _ D.TOz.symm (k4.extBut _ _ D.i2z.symm (k3.extBut _ _ D.TOz.symm (k2.extBut _ _ D.i1z.symm z1)))
  have up5 : ∀ c t, c ∉ [z, o, i, j] → s.heap.get? c = some t → g5.get? c = some t := fun c t nc e => by
    simp only [List.mem_cons, List.not_mem_nil, or_false, not_or] at nc
    obtain ⟨n1, n2, n3, n4⟩ := nc
    exact k5.extBut _ _ n2 (k4.extBut _ _ n4 (k3.extBut _ _ n2 (k2.extBut _ _ n3 (k1.extBut _ _ n1 e))))
  have i5 : g5.IsTupleIter i a (n + 1) := ((i2.extBut k3.extBut D.TOi1.symm).extBut k4.extBut D.i12).extBut k5.extBut D.TOi1.symm
  have j5 : g5.IsListIter j b (n + 1) := j4.extBut k5.extBut D.TOi2.symm
  have zl : z < g5.objs.size := Heap.lt_size z5
  show wpAny _ _ (Builtin.SmallTypes.ownedTupleHandOut (.ref z) (.ref g5.objs.size) >>= _) _ _ _
  unfold Builtin.SmallTypes.ownedTupleHandOut
  have z6 : IsZip (g5.push { cls := .type "tuple", data := .seq #[x, y] }) z p o .ellipsis := Heap.get?_push_of_some _ z5
  refine wpAny_bind (wpAny_bind (wpAny_setField_rec z6 (by simp) fun g7 z7 k7 => ?_))
  replace z7 : IsZip g7 z p o (rawInt g5.objs.size) := z7
  refine wpAny_setField_rec z7 (by simp) fun g8 z8 k8 => ?_
  replace z8 : IsZip g8 z p o (rawInt g5.objs.size) := z8
  have up8 : ∀ c t, c ≠ z → g5.get? c = some t → g8.get? c = some t := fun c t nc e => k8.extBut _ _ nc (k7.extBut _ _ nc (Heap.get?_push_of_some _ e))
  have t8 : IsPair g8 g5.objs.size x y := k8.extBut _ _ (Nat.ne_of_gt zl) (k7.extBut _ _ (Nat.ne_of_gt zl) (Heap.get?_push_size _ rfl))
  rw [sz] at z8 t8
  refine wpAny_pure ⟨_, rfl, ?_⟩
  show Q (.ref g5.objs.size) _
  rw [sz]
  have np : p ∉ [z, o, i, j] := by simp [D.TIz, D.TITO, D.TIi1, D.TIi2]
  exact q g8 ⟨z8, up8 _ _ D.TIz (up5 _ _ np mp), ⟨x, y, up8 _ _ D.TOz o5⟩, i5.at fun t e => up8 _ t D.i1z e, j5.at fun t e => up8 _ t D.i2z e⟩ t8 fun c t nc e => up8 c t (fun e => nc (by simp [e])) (up5 c t nc e)
theorem tz_end {Q : Fin → Shared → Prop} (hh : A.handled = none) (D : ZipApart z p o i j a b) (m : Tz s.heap z p o i j a b n .none) (ha : s.heap.IsTuple a xs) (hb : s.heap.IsList b ys) (en : xs[n]? = none ∨ ys[n]? = none)
    (q : ∀ h' e, (∀ c t, c ∉ [z, o, i, j] → s.heap.get? c = some t → h'.get? c = some t) → (∃ t, h'.get? e = some t ∧ t.cls = .type "StopIteration") → E (.ref e) { s with heap := h' }) :
    wpAny (model prog w) A (Builtin.«zip.__next__» ⟨[.ref z], []⟩) Q E s := by
  obtain ⟨mz, mp, ⟨u, v, mo⟩, mi, mj⟩ := m
  show wpAny _ _ (field (.ref z) 2 >>= _) _ _ _
  refine wpAny_bind (wpAny_field mz rfl (x := .bool false) rfl ?_)
  show wpAny _ _ (field (.ref z) 3 >>= _) _ _ _
  refine wpAny_bind (wpAny_field mz rfl (x := .ref p) rfl (wpAny_bind (wpAny_seqItems mp rfl ?_)))
  show wpAny _ _ (Builtin.SmallTypes.ownedTupleIsFree (.ref z) >>= _) _ _ _
  unfold Builtin.SmallTypes.ownedTupleIsFree
  refine wpAny_bind (wpAny_bind (wpAny_field mz rfl (x := .none) rfl (wpAny_pure ?_)))
  simp only [if_true]
  refine wpAny_bind (wpAny_rule (wpAny_bind (wpAny_field mz rfl (x := .ref o) rfl (wpAny_bind (wpAny_setField_rec mz (by simp) fun g1 z1 k1 => ?_)))))
  replace z1 : IsZip g1 z p o .ellipsis := z1
  simp only [List.zipIdx_cons, List.zipIdx_nil, List.forIn_cons, List.forIn_nil]
  refine wpAny_bind (wpAny_bind (wpAny_bind (wpAny_onRaise ?_)))
  show wpAny _ _ (Builtin.SmallTypes.nextOf (.ref i) >>= _) _ _ _
  cases ex : xs[n]? with
  | none =>
    refine wpAny_bind (RZ.nextOf_tuple_end hh (mi.extBut k1.extBut D.i1z) (ha.extBut k1.extBut D.l1z) ex fun g2 e k2 ⟨t, et, ct⟩ => ?_)
    have z2 : IsZip g2 z p o .ellipsis := k2 _ _ D.i1z.symm z1
    have ne : e ≠ z := fun x => by
      subst x
      rw [z2] at et
      cases et
      simp at ct
    refine wpAny_setField_rec z2 (by simp) fun g3 _ k3 => q g3 e (fun c t nc x => ?_) ⟨t, k3.extBut _ _ ne et, ct⟩
    simp only [List.mem_cons, List.not_mem_nil, or_false, not_or] at nc
    exact k3.extBut _ _ nc.1 (k2 _ _ nc.2.2.1 (k1.extBut _ _ nc.1 x))
  | some x =>
    have ey : ys[n]? = none := en.resolve_left (by rw [ex]; exact fun z => by cases z)
    refine wpAny_bind (RZ.nextOf_tuple_item (mi.extBut k1.extBut D.i1z) (ha.extBut k1.extBut D.l1z) ex fun g2 i2 k2 => wpAny_pure ?_)
    have o2 : IsPair g2 o u v := k2.extBut _ _ D.TOi1 (k1.extBut _ _ D.TOz mo)
    refine wpAny_bind (wpAny_seqItems o2 rfl (wpAny_bind (wpAny_updateSeq_pair o2 fun g3 o3 k3 => wpAny_bind (wpAny_letGo (wpAny_pure ?_)))))
    refine wpAny_bind (wpAny_bind (wpAny_onRaise ?_))
    show wpAny _ _ (Builtin.SmallTypes.nextOf (.ref j) >>= _) _ _ _
    refine wpAny_bind (wpAny_nextOf_list_end hh (((mj.extBut k1.extBut D.i2z).extBut k2.extBut D.i12.symm).extBut k3.extBut D.TOi2.symm) (((hb.extBut k1.extBut D.l2z).extBut k2.extBut D.l2i1).extBut k3.extBut D.l2TO) ey fun g4 e k4 ⟨t, et, ct⟩ => ?_)
    have z4 : IsZip g4 z p o .ellipsis := k4 _ _ D.i2z.symm (k3.extBut _ _ D.TOz.symm (k2.extBut _ _ D.i1z.symm z1))
    have ne : e ≠ z := fun x => by
      subst x
      rw [z4] at et
      cases et
      simp at ct
    refine wpAny_setField_rec z4 (by simp) fun g5 _ k5 => q g5 e (fun c t nc x => ?_) ⟨t, k5.extBut _ _ ne et, ct⟩
    simp only [List.mem_cons, List.not_mem_nil, or_false, not_or] at nc
    exact k5.extBut _ _ nc.1 (k4 _ _ nc.2.2.2 (k3.extBut _ _ nc.2.1 (k2.extBut _ _ nc.2.2.1 (k1.extBut _ _ nc.1 x))))
theorem tz_next {x y : Value} {Q : Option Value → Shared → Prop} (D : ZipApart z p o i j a b) (m : Tz s.heap z p o i j a b n .none) (ha : s.heap.IsTuple a xs) (hb : s.heap.IsList b ys) (ex : xs[n]? = some x) (ey : ys[n]? = some y)
    (q : ∀ h', Tz h' z p o i j a b (n + 1) (rawInt s.heap.objs.size) → IsPair h' s.heap.objs.size x y → (∀ c t, c ∉ [z, o, i, j] → s.heap.get? c = some t → h'.get? c = some t) → Q (some (.ref s.heap.objs.size)) { s with heap := h' }) : wpAny (model prog w) A (pyNext (.ref z)) Q E s := by
  have ty : s.TypeIs (.ref z) "zip" := ⟨_, m.hz, rfl⟩
  unfold pyNext
  exact wpAny_bind (wpAny_attempt (wpAny_callSpecial?_slot (name := Str.ofString "__next__") ty F.slot_zip_next (wpAny_call_entry F.slot_zip_next ty F.entry_zip_next (tz_step D m ha hb ex ey fun h' c1 c2 c3 => wpAny_pure (q h' c1 c2 c3)) (F.args_zip_next_1 _))))
theorem tz_stop {Q : Option Value → Shared → Prop} (hh : A.handled = none) (D : ZipApart z p o i j a b) (m : Tz s.heap z p o i j a b n .none) (ha : s.heap.IsTuple a xs) (hb : s.heap.IsList b ys) (en : xs[n]? = none ∨ ys[n]? = none)
    (q : ∀ h', (∀ c t, c ∉ [z, o, i, j] → s.heap.get? c = some t → h'.get? c = some t) → Q none { s with heap := h' }) : wpAny (model prog w) A (pyNext (.ref z)) Q E s := by
  have ty : s.TypeIs (.ref z) "zip" := ⟨_, m.hz, rfl⟩
  unfold pyNext
  refine wpAny_bind (wpAny_attempt (wpAny_callSpecial?_slot (name := Str.ofString "__next__") ty F.slot_zip_next (wpAny_call_entry F.slot_zip_next ty F.entry_zip_next (tz_end hh D m ha hb en fun h' e k ⟨t, et, ct⟩ => ?_) (F.args_zip_next_1 _))))
  exact wpAny_bind (wpAny_isInstance (T := "StopIteration") (b := true) ⟨t, et, ct⟩ isSubtype_stop (wpAny_pure (q _ k)))
end
/-! the new zip -/
def tzH (h : Heap) (a b : Addr) : Heap := ((((h.push { cls := .type "tuple_iterator", data := .fields #[.ref a, .int 0 0] }).push { cls := .type "list_iterator", data := .fields #[.ref b, .int 0 0] }).push
  { cls := .type "tuple", data := .seq #[.ref h.objs.size, .ref (h.objs.size + 1)] }).push { cls := .type "tuple", data := .seq #[.none, .none] }).push
  { cls := .type "zip", data := .fields #[.none, .bool false, .bool false, .ref (h.objs.size + 2), .ref (h.objs.size + 3)] }
theorem tz_new (a b : Addr) (xs ys : Array Value) : Meets (Builtin.«zip.__new__» ⟨[.type "zip", .ref a, .ref b], []⟩) (fun _ R s => s.heap.IsTuple a xs ∧ s.heap.IsList b ys ∧ R (.ok (.ret (.ref (s.heap.objs.size + 4)))) { s with heap := tzH s.heap a b }) :=
  .of_wp fun prog w A R s h => by
    obtain ⟨hp, g, d, tk, os⟩ := s
    obtain ⟨ha, hb, h⟩ := h
    have sub := sub_zip
    have La : Heap.IsTuple (Shared.heap ⟨hp, g, d, tk, os⟩) a xs := ha
    have Lb : Heap.IsList (Shared.heap ⟨hp.push { cls := .type "tuple_iterator", data := .fields #[.ref a, .int 0 0] }, g, d, tk, os⟩) b ys := Heap.IsList.push hb _
    have e1 : (hp.push { cls := .type "tuple_iterator", data := .fields #[.ref a, .int 0 0] }).objs.size = hp.objs.size + 1 := Heap.size_push ..
    unfold tzH at h
    dsimp only at h
    wp_walk using wpAny_pyIter_tuple La, wpAny_pyIter_list Lb
    simp only [Heap.size_push] at *
    exact ⟨_, rfl, h⟩
section
variable {prog : Program} {w : World} {A : Around} {E : Value → Shared → Prop} {s : Shared} {a b : Addr} {xs ys : Array Value}
theorem tz_call {Q : Value → Shared → Prop} (ha : s.heap.IsTuple a xs) (hb : s.heap.IsList b ys)
    (q : ∀ h', Tz h' (s.heap.objs.size + 4) (s.heap.objs.size + 2) (s.heap.objs.size + 3) s.heap.objs.size (s.heap.objs.size + 1) a b 0 .none → (∀ c t, s.heap.get? c = some t → h'.get? c = some t) → Q (.ref (s.heap.objs.size + 4)) { s with heap := h' }) :
    wpAny (model prog w) A (call (.type "zip") [.ref a, .ref b]) Q E s := by
  refine callType_new F.called_zip (by decide) (F.typeCall_zip_2 _ _) (F.newCall_zip_2 _ _) (fun ob => F.args_object_init_3 ob _ _) F.entry_zip_new (tz_new a b xs ys) ⟨ha, hb, ?_⟩
  generalize hn : s.heap.objs.size = N at q ⊢
  have g : ∀ {h : Heap} {ob : Obj} {m : Nat}, h.objs.size = m → ob.isFreed = false → (h.push ob).get? m = some ob := fun e f => by
    rw [← e]
    exact Heap.get?_push_size _ f
  have u : ∀ {h : Heap} {ob t : Obj} {c : Addr}, h.get? c = some t → (h.push ob).get? c = some t := fun e => Heap.get?_push_of_some _ e
  have hz : IsZip (tzH s.heap a b) (N + 4) (N + 2) (N + 3) .none := by
    unfold tzH
    rw [hn]
    exact g (by simp only [Heap.size_push, hn]) rfl
  have hi : (tzH s.heap a b).get? N = some { cls := .type "tuple_iterator", data := .fields #[.ref a, .int 0 0] } := by
    unfold tzH
    exact u (u (u (u (g hn rfl))))
  have hj : (tzH s.heap a b).get? (N + 1) = some { cls := .type "list_iterator", data := .fields #[.ref b, .int 0 0] } := by
    unfold tzH
    exact u (u (u (g (by simp only [Heap.size_push, hn]) rfl)))
  refine ⟨⟨_, hz, rfl⟩, q _ ⟨hz, ?_, ⟨.none, .none, ?_⟩, ⟨_, hi, rfl, rfl⟩, ⟨_, hj, rfl, rfl⟩⟩ fun c t e => ?_⟩
  all_goals unfold tzH
  · rw [hn]
    exact u (u (g (by simp only [Heap.size_push, hn]) rfl))
  · exact u (g (by simp only [Heap.size_push, hn]) rfl)
  · exact u (u (u (u (u e))))
end
/-- the tuple at a and the list at b, the items in new pairs -/
def Itl2 (K : PySem.W.Frag) (a b : Addr) : It :=
  ⟨fun i H => ∃ (xs ys : List V) (x y : V), SqT K H a xs ∧ SqL K H b ys ∧ xs[i]? = some x ∧ ys[i]? = some y,
   fun i H v H' => ∃ t x y, v = .ref t ∧ H t = none ∧ H' = upd H t (.tup [x, y]) ∧ (∀ xs, SqT K H a xs → xs[i]? = some x) ∧ ∀ ys, SqL K H b ys → ys[i]? = some y,
   fun i H => ∃ xs ys : List V, SqT K H a xs ∧ SqL K H b ys ∧ (xs.length ≤ i ∨ ys.length ≤ i)⟩
theorem turn_tz {P : Program} {w : World} {K : PySem.W.Frag} {elts : List Expr} {kk : Nat} {tpos : Pos} {a b z p o i1 i2 : Addr} (D : ZipApart z p o i1 i2 a b) :
    Turn P w K (.Tuple elts kk tpos) (Itl2 K a b) [z, p, o, i1, i2] z (fun i h => Tz h z p o i1 i2 a b i .none) where
  mem := by simp
  obj := fun i h st c hc => by
    obtain ⟨m1, m2, ⟨u, v, m3⟩, ⟨o1, e1, _, d1⟩, ⟨o2, e2, _, d2⟩⟩ := st
    simp only [List.mem_cons, List.not_mem_nil, or_false] at hc
    rcases hc with e | e | e | e | e <;> subst e
    · exact ⟨_, m1, fun v e => by cases e⟩
    · exact ⟨_, m2, fun v e => by cases e⟩
    · exact ⟨_, m3, fun v e => by cases e⟩
    · exact ⟨o1, e1, fun v e => by rw [d1] at e; cases e⟩
    · exact ⟨o2, e2, fun v e => by rw [d2] at e; cases e⟩
  keep := fun i h h' st k => st.at k
  item := by
    intro X hP hw hK hc i pins s σ H E I hf st hg
    subst hP hw hK
    obtain ⟨xs, ys, x, y, qx, qy, ex, ey⟩ := hg
    obtain ⟨us, rv, pa, _⟩ := I.tuple qx
    obtain ⟨ws, rw_, pb, _⟩ := I.list qy
    obtain ⟨u, hu, ru⟩ := rv.get ex
    obtain ⟨v, hv, rv2⟩ := rw_.get ey
    have zl : z < s.heap.objs.size := Heap.lt_size st.hz
    refine tz_next D st (show s.heap.IsTuple a us.toArray from pa) pb.isList (x := u) (y := v) (by simpa using hu) (by simpa using hv) fun g m1 t1 k1 => ⟨_, rfl, ?_⟩
    refine wpAny_letOwnedTupleGo_zip (s := { s with heap := g }) m1.hz fun g2 z2 sb => ?_
    have t2 : g2.get? s.heap.objs.size = some { cls := .type "tuple", data := .seq #[u, v] } := (sb.2 _ (Nat.ne_of_gt zl)).trans t1
    have new : ObjOk X.prog X.w (upd H s.heap.objs.size (.tup [x, y])) g2 s.heap.objs.size (.tup [x, y]) :=
      ⟨by show 2 ≤ sizeLine; decide, [u, v], .cons ru (.cons rv2 .nil), ⟨_, t2, rfl, _, rfl⟩⟩
    have I1 : Inv X pins σ (upd H s.heap.objs.size (.tup [x, y])) { s with heap := g2 } :=
      I.turnedNew (t' := s.toks) (ch := [z, p, o, i1, i2]) (fun c t nb e => (sb.2 c (fun q => nb (by simp [q]))).trans (k1 c t (fun q => nb (by simp at q ⊢; rcases q with q | q | q | q <;> simp [q])) e)) hf (Nat.le_refl _) new
    obtain ⟨_, mp, ⟨r1, r2, mo⟩, mi, mj⟩ := m1
    refine ⟨.ref s.heap.objs.size, _, I1, rfl, ⟨_, x, y, rfl, I.hok.fresh (Nat.le_refl _), rfl, fun l hl => by rw [I.tuple_inj hl qx]; exact ex, fun l hl => by rw [I.list_inj hl qy]; exact ey⟩, ⟨z2, (sb.2 _ D.TIz).trans mp, ⟨r1, r2, (sb.2 _ D.TOz).trans mo⟩, mi.at fun t e => (sb.2 _ D.i1z).trans e, mj.at fun t e => (sb.2 _ D.i2z).trans e⟩, fun c hcm => ?_⟩
    have lt : c < s.heap.objs.size := by
      obtain ⟨ob, e, _⟩ := show ∃ ob, s.heap.get? c = some ob ∧ True from by
        obtain ⟨m1, m2, ⟨u, v, m3⟩, ⟨o1, e1, _, d1⟩, ⟨o2, e2, _, d2⟩⟩ := st
        simp only [List.mem_cons, List.not_mem_nil, or_false] at hcm
        rcases hcm with e | e | e | e | e <;> subst e
        · exact ⟨_, m1, trivial⟩
        · exact ⟨_, m2, trivial⟩
        · exact ⟨_, m3, trivial⟩
        · exact ⟨_, e1, trivial⟩
        · exact ⟨_, e2, trivial⟩
      exact Heap.lt_size e
    rw [upd_ne (Nat.ne_of_lt lt)]
    exact (hf c hcm).1
  done := by
    intro X hP hw hK hc i pins s σ H E I hf st hg
    subst hP hw hK
    obtain ⟨xs, ys, qx, qy, en⟩ := hg
    obtain ⟨us, rv, pa, _⟩ := I.tuple qx
    obtain ⟨ws, rw_, pb, _⟩ := I.list qy
    have l1 := rv.length
    have l2 := rw_.length
    refine tz_stop (I.ok.hd hc) D st (show s.heap.IsTuple a us.toArray from pa) pb.isList (en.imp (fun q => by simp; omega) fun q => by simp; omega) fun g k => ⟨rfl, ?_⟩
    exact I.turnedL (t' := s.toks) (ch := [z, p, o, i1, i2]) (fun c t nb e => k c t (fun q => nb (by simp at q ⊢; rcases q with q | q | q | q <;> simp [q])) e) hf
  self := fun A i s Q E st h => wpAny_pyIter_zip st.hz h
def iZipTL (K : PySem.W.Frag) (ta : TA) : TI := fun σ H R => ta σ H fun vs H1 => ∃ a b xs ys, vs = [.ref a, .ref b] ∧ SqT K H1 a xs ∧ SqL K H1 b ys ∧ R (Itl2 K a b) H1
theorem pi_zipTL {X : Cx} {e e2 : Expr} {ta : TA} {p pos tpos : Pos} {elts : List Expr} {kk : Nat} (hg : Gl X "zip") (hm : X.mg "zip" = none) (ha : PA X [e, e2] ta)
    (hs : starEach [e, e2] X.env = (false, eval e X.env) :: starEach [e2] X.env := by rfl) (hpl : (backTo pos (starEach [e2] X.env)).any (·.1) = false := by rfl) :
    PI X (.Tuple elts kk tpos) (.Call (.Name "zip" p) [e, e2] [] pos) (iZipTL X.K ta) := by
  refine ⟨fun pins s σ H R I h => ?_⟩
  refine Call_ (ld_blt I hg hm PyProof.Rows.boot_zip (PyProof.Rows.callWith_type1 (thn (ha.run pos pins s σ H _ I h) fun us s1 ⟨vs, H1, I1, r1, q1⟩ => ?_) hs hpl))
  obtain ⟨a, b, xs, ys, rfl, qx, qy, q⟩ := q1
  cases r1 with
  | cons r rr =>
    cases rr with
    | cons r2 rr =>
      cases rr
      cases r
      cases r2
      obtain ⟨us, rv, pa, _⟩ := I1.tuple qx
      obtain ⟨ws, rw_, pb, _⟩ := I1.list qy
      have tb : s1.heap.IsList b ws.toArray := pb.isList
      have ta : s1.heap.IsTuple a us.toArray := pa
      obtain ⟨ob, hb, _⟩ := id ta
      refine tz_call ta tb fun h' m k => wpAny_pyIter_zip m.hz ?_
      refine ⟨s1.heap.objs.size + 4, [s1.heap.objs.size + 4, s1.heap.objs.size + 2, s1.heap.objs.size + 3, s1.heap.objs.size, s1.heap.objs.size + 1], _, _, H1, rfl, I1.kept (t' := s1.toks) k, turn_tz (PySem.W.ktu_apart s1.heap.objs.size a b (Heap.lt_size hb) pb.lt), m, fun c hc => ?_, q⟩
      have le : s1.heap.objs.size ≤ c := by
        simp only [List.mem_cons, List.not_mem_nil, or_false] at hc
        rcases hc with e | e | e | e | e <;> rw [e]
        all_goals first | exact Nat.le_add_right _ _ | exact Nat.le_refl _
      exact I1.fpOk le (I1.hok.fresh le)
end L2

/-! X17 -/
namespace Mw
open PySem L2
/-- things whose lengths are small -/
def SmD (d : PyData) : Prop := lenD d ≤ 10 ∧ (itD d).length ≤ 10 ∧ ∀ e ∈ itD d, lenD e ≤ 10
def spLSome (CP : Addr → Prop) : Sp := fun vs H Q _ => ∃ (p l : Addr) (M : List Addr), vs = [.ref p] ∧ PoolAt H p l ∧ p ∈ M ∧ l ∈ M ∧ (∀ m ∈ M, ∃ o, H m = some o) ∧ ∀ d x H', SmD d → Dt CP M H' d x → PoolAt H' p l → FK [p, l] H H' → Q x H'
theorem rd_menuS {K : PySem.W.Frag} {CP : Addr → Prop} {M : List Addr} {H : Hp} {Q : VK} {a : Addr} {xs : List V} {ds : List PyData} {i : Int} (h : H a = some (.lst xs)) (ht : DtAll CP M H ds xs) (h0 : 0 ≤ i) (h1 : i < (ds.length : Int)) (q : ∀ d x, d ∈ ds → Dt CP M H d x → Q x H) : rIxL K (.ref a) (.int i) H Q := by
  obtain ⟨j, rfl⟩ : ∃ j : Nat, i = (j : Int) := ⟨i.toNat, by omega⟩
  have hj : j < ds.length := by omega
  obtain ⟨x, hx, t⟩ := ht.get (show ds[j]? = some ds[j] by simp [hj])
  exact rd_ixL h (atI_nat hx) (q _ x (List.getElem_mem hj) t)
theorem smD0 {d : PyData} (h1 : lenD d ≤ 10) (h2 : itD d = []) : SmD d := ⟨h1, by rw [h2]; exact Nat.zero_le _, fun e he => by rw [h2] at he; cases he⟩
theorem smD1 {d e : PyData} (h1 : lenD d ≤ 10) (h2 : itD d = [e]) (h3 : lenD e ≤ 10) : SmD d := ⟨h1, by rw [h2]; show 1 ≤ 10; decide, fun f he => by rw [h2] at he; rw [show f = e by simpa using he]; exact h3⟩
theorem smD2 {d e f : PyData} (h1 : lenD d ≤ 10) (h2 : itD d = [e, f]) (h3 : lenD e ≤ 10) (h4 : lenD f ≤ 10) : SmD d := ⟨h1, by rw [h2]; show 2 ≤ 10; decide, fun g he => by
  rw [h2] at he
  rcases (by simpa using he : g = e ∨ g = f) with z | z
  · rw [z]; exact h3
  · rw [z]; exact h4⟩
/-- data over more places, all new -/
theorem DtAll.add {CP : Addr → Prop} {M : List Addr} {H H' : Hp} {ds : List PyData} {xs : List V} {d : PyData} {x : V} (h : DtAll CP M H ds xs) (s : Same H H') (h2 : Dt CP M H' d x) : DtAll CP M H' (ds ++ [d]) (xs ++ [x]) := (h.s s).snoc h2
section
variable {P : Program} {w : World} {K : PySem.W.Frag} {mg : Str → Option Value} {base : Heap}
local macro_rules | `(tactic| walk_at "rd") => `(tactic| (repeat (first
  | ((with_reducible refine' rd_var ?h0 ?_); (case h0 => rfl))
  | with_reducible refine rd_c ?_
  | with_reducible refine rd_op ?_
  | with_reducible refine rd_nil ?_
  | with_reducible refine rd_cons ?_
  | with_reducible refine rd_tup ?_
  | with_reducible refine rd_lst ?_
  | with_reducible refine rd_ifs ?_
  | with_reducible refine rd_seq ?_
  | with_reducible refine rd_next ?_
  | with_reducible refine rd_ret ?_
  | with_reducible refine rd_asg ?_
  | ((with_reducible refine' rd_gset ?hs ?_); (case hs => ((simp only [L2.start, List.map_cons, List.map_nil, List.length_cons, List.length_nil, List.cons_append, List.nil_append, List.set_cons_zero, List.set_cons_succ, Nat.reduceAdd, Nat.reduceSub, Nat.zero_add, List.reduceReplicate]); rfl)))
  | with_reducible refine rd_drop ?_
  | with_reducible refine rd_test ?_
  | with_reducible refine rd_B ?_
  | with_reducible refine rd_bl ?_
  | with_reducible refine rd_blP ?_
  | with_reducible refine rd_andV ?_
  | with_reducible refine rd_orV ?_
  | with_reducible refine rd_notV ?_
  | with_reducible refine rd_and ?_
  | with_reducible refine rd_or ?_
  | with_reducible refine rd_not ?_
  | with_reducible refine rd_chain ?_
  | with_reducible refine rd_dput ?_
  | with_reducible refine rd_dget ?_
  | with_reducible refine rd_cb ?_
  | with_reducible refine rd_call ?_
  | with_reducible refine rd_un ?_
  | with_reducible refine rd_sl ?_
  | with_reducible refine rd_nopart ?_
  | with_reducible refine rd_part ?_
  | with_reducible refine rd_intP ?_
  | with_reducible refine rd_rU ?_
  | with_reducible refine rd_fld ?_
  | with_reducible refine rd_eqI ?_
  | with_reducible refine rd_neI ?_
  | with_reducible refine rd_mko ?_
  | with_reducible refine rd_bm ?_
  | with_reducible refine rd_gsub ?_
  | with_reducible refine rd_i0 ?_)))
theorem ok_law_some (T : Tx K mg) (B : Bk K mg T) : FnOk P w K mg base CX0 3 B.law_some.f B.law_some.fd ["pool"] (spLSome T.CP) := by
  have G_law_deep := ok_law_deep (P := P) (w := w) (base := base) T B
  have G_law_draw := ok_law_draw (P := P) (w := w) (base := base) T B
  have G_Disk_init := ok_disk_init (P := P) (w := w) (base := base) T B
  have G_Outgoing_init := ok_out_init (P := P) (w := w) (base := base) T B
  refine B.law_some.F.ok sc_law_some (fun vs H Q E h => ?_) (fun cdv A outer s H vs Q E hr h => ?_)
  · obtain ⟨p, l, M, rfl, _⟩ := h
    rfl
  · obtain ⟨p, l, M, rfl, hh, mp, ml, hM, q⟩ := h
    refine ⟨_, (pss_cons (ps_set (i := 1) sc_law_some.nd rfl (Or.inl rfl) (pe_lst (pa_cons pe_non (pa_cons pe_bl (pa_cons pe_int (pa_cons pe_int (pa_cons (pe_un un_neg pe_int) (pa_cons pe_int (pa_cons pe_str (pa_cons pe_str (pa_cons (pe_lst pa_nil) (pa_cons (pe_lst (pa_cons pe_int pa_nil)) (pa_cons (pe_tup (pa_cons pe_int pa_nil)) (pa_cons (pe_tup (pa_cons pe_int (pa_cons (pe_un un_neg pe_int) pa_nil))) (pa_cons (pe_tup (pa_cons pe_bl pa_nil)) (pa_cons (pe_tup (pa_cons pe_str pa_nil)) (pa_cons (pe_tup (pa_cons (pe_tup pa_nil) pa_nil)) (pa_cons pe_dnewK (pa_cons (pe_call0 G_law_deep (hr.mono (by omega)) rfl B.law_deep.m B.law_deep.F.kp B.law_deep.b .nil pass0) pa_nil)))))))))))))))))))
      (pss_cons (ps_set (i := 1) sc_law_some.nd rfl (Or.inl rfl) (pe_op op_cat (pv 1) (pe_lst (pa_cons (pe_op op_pow pe_int pe_int) (pa_cons (pe_tup (pa_cons pe_int pa_nil)) (pa_cons (pe_tup (pa_cons pe_int (pa_cons pe_int pa_nil))) (pa_cons (pe_make0 (mk_of_Disk T B.Disk_init) G_Disk_init (hr.mono (by omega)) rfl T.g_Disk B.Disk_init.b .nil pass0) (pa_cons (pe_tup (pa_cons (pe_make0 (mk_of_Outgoing T B.Outgoing_init) G_Outgoing_init (hr.mono (by omega)) rfl T.g_Outgoing B.Outgoing_init.b .nil pass0) pa_nil)) pa_nil))))))))
      (pss_one (ps_ret (pe_ix ix_list (pv 1) (pe_call G_law_draw (hr.mono (by omega)) rfl B.law_draw.m B.law_draw.F.kp B.law_draw.b .nil pass0 (pa_cons (pv 0) (pa_cons pe_int pa_nil))) (fun _ _ => rfl)))))), ?_⟩
    have D0 : DtAll T.CP M H [.none, .bool true, .int 0, .int 1, .int (-1), .int 2, .str "row", .str ""] [.non, .bl true, .int 0, .int 1, .int (-1), .int 2, .str "row", .str ""] :=
      dtAll_cons dt_non (dtAll_cons dt_bl (dtAll_cons dt_int (dtAll_cons dt_int (dtAll_cons dt_int (dtAll_cons dt_int (dtAll_cons dt_str (dtAll_cons dt_str dtAll_nil)))))))
    have S0 := Same.refl H
    walk_at "rd"
    refine rd_disp rfl fun a1 n1 => ?_
    have s1 := same_new (o := .lst []) n1
    have D1 := D0.add s1 (dt_lst (new_out (there_same hM S0) n1) upd_same dtAll_nil)
    have S1 := S0.trans s1
    clear D0 S0 s1
    generalize upd H a1 (.lst []) = H1 at D1 S1
    walk_at "rd"
    refine rd_disp rfl fun a2 n2 => ?_
    have s2 := same_new (o := .lst [.int 1]) n2
    have D2 := D1.add s2 (dt_lst (new_out (there_same hM S1) n2) upd_same (dtAll_cons (dt_int (i := 1)) dtAll_nil))
    have S2 := S1.trans s2
    clear D1 S1 s2
    generalize upd H1 a2 (.lst [.int 1]) = H2 at D2 S2
    walk_at "rd"
    refine rd_disp rfl fun a3 n3 => ?_
    have s3 := same_new (o := .tup [.int 256]) n3
    have D3 := D2.add s3 (dt_tup upd_same (dtAll_cons (dt_int (i := 256)) dtAll_nil))
    have S3 := S2.trans s3
    clear D2 S2 s3
    generalize upd H2 a3 (.tup [.int 256]) = H3 at D3 S3
    walk_at "rd"
    refine rd_disp rfl fun a4 n4 => ?_
    have s4 := same_new (o := .tup [.int 1, .int (-1)]) n4
    have D4 := D3.add s4 (dt_tup upd_same (dtAll_cons (dt_int (i := 1)) (dtAll_cons (dt_int (i := -1)) dtAll_nil)))
    have S4 := S3.trans s4
    clear D3 S3 s4
    generalize upd H3 a4 (.tup [.int 1, .int (-1)]) = H4 at D4 S4
    walk_at "rd"
    refine rd_disp rfl fun a5 n5 => ?_
    have s5 := same_new (o := .tup [.bl true]) n5
    have D5 := D4.add s5 (dt_tup upd_same (dtAll_cons (dt_bl (b := true)) dtAll_nil))
    have S5 := S4.trans s5
    clear D4 S4 s5
    generalize upd H4 a5 (.tup [.bl true]) = H5 at D5 S5
    walk_at "rd"
    refine rd_disp rfl fun a6 n6 => ?_
    have s6 := same_new (o := .tup [.str "1"]) n6
    have D6 := D5.add s6 (dt_tup upd_same (dtAll_cons (dt_str (s := "1")) dtAll_nil))
    have S6 := S5.trans s6
    clear D5 S5 s6
    generalize upd H5 a6 (.tup [.str "1"]) = H6 at D6 S6
    walk_at "rd"
    refine rd_disp rfl fun a7 n7 => ?_
    have s7 := same_new (o := .tup []) n7
    have t7 : Dt T.CP M (upd H6 a7 (.tup [])) (.tuple []) (.ref a7) := dt_tup upd_same dtAll_nil
    have D7 := D6.s s7
    have S7 := S6.trans s7
    clear D6 S6 s7
    generalize upd H6 a7 (.tup []) = H7 at D7 S7 t7
    walk_at "rd"
    refine rd_disp rfl fun a8 n8 => ?_
    have s8 := same_new (o := .tup [.ref a7]) n8
    have D8 := D7.add s8 (dt_tup upd_same (dtAll_cons (t7.s s8) dtAll_nil))
    have S8 := S7.trans s8
    clear D7 S7 s8 t7
    generalize upd H7 a8 (.tup [.ref a7]) = H8 at D8 S8
    walk_at "rd"
    intro a9 n9
    have s9 := same_new (o := .dK []) n9
    have D9 := D8.add s9 (dt_dic (kv := []) (new_out (there_same hM S8) n9) upd_same)
    have S9 := S8.trans s9
    clear D8 S8 s9
    generalize upd H8 a9 (.dK []) = H9 at D9 S9
    walk_at "rd"
    refine ⟨M, rfl, there_same hM S9, fun v HA sA hv => ?_⟩
    have DA := D9.add sA hv
    have SA := S9.trans sA
    clear D9 S9 sA hv
    walk_at "rd"
    refine rd_disp rfl fun b n10 => ?_
    simp only [List.cons_append, List.nil_append] at DA
    have sB := same_new (o := .lst [.non, .bl true, .int 0, .int 1, .int (-1), .int 2, .str "row", .str "", .ref a1, .ref a2, .ref a3, .ref a4, .ref a5, .ref a6, .ref a8, .ref a9, v]) n10
    have hB : (upd HA b (.lst [.non, .bl true, .int 0, .int 1, .int (-1), .int 2, .str "row", .str "", .ref a1, .ref a2, .ref a3, .ref a4, .ref a5, .ref a6, .ref a8, .ref a9, v])) b = some (.lst [.non, .bl true, .int 0, .int 1, .int (-1), .int 2, .str "row", .str "", .ref a1, .ref a2, .ref a3, .ref a4, .ref a5, .ref a6, .ref a8, .ref a9, v]) := upd_same
    have DB := DA.s sB
    have SB := SA.trans sB
    clear DA SA sB
    generalize upd HA b (.lst [.non, .bl true, .int 0, .int 1, .int (-1), .int 2, .str "row", .str "", .ref a1, .ref a2, .ref a3, .ref a4, .ref a5, .ref a6, .ref a8, .ref a9, v]) = HB at DB SB hB
    walk_at "rd"
    refine rd_iC ⟨by decide, by decide, by decide⟩ ?_
    walk_at "rd"
    refine rd_disp rfl fun c1 m1 => ?_
    have u1 := same_new (o := .tup [.int 0]) m1
    have E1 : DtAll T.CP M (upd HB c1 (.tup [.int 0])) [.int (10 ^ (19 : Int).toNat), .tuple [.int 0]] [.int (10 ^ (19 : Int).toNat), .ref c1] := dtAll_cons dt_int (dtAll_cons (dt_tup upd_same (dtAll_cons dt_int dtAll_nil)) dtAll_nil)
    have U1 := u1
    clear u1
    generalize upd HB c1 (.tup [.int 0]) = HC at E1 U1
    walk_at "rd"
    refine rd_disp rfl fun c2 m2 => ?_
    have u2 := same_new (o := .tup [.int 3, .int 5]) m2
    have E2 := E1.add u2 (dt_tup upd_same (dtAll_cons (dt_int (i := 3)) (dtAll_cons (dt_int (i := 5)) dtAll_nil)))
    have U2 := U1.trans u2
    clear E1 U1 u2
    generalize upd HC c2 (.tup [.int 3, .int 5]) = HD at E2 U2
    walk_at "rd"
    refine rd_make ?_
    walk_at "rd"
    intro x dx nx ndx ne
    have Z1 : Same HD (upd (upd HD dx (.own x)) x (.ins T.c_Disk dx [])) := fun z o e => by
      rw [upd_ne (ne_of_none e nx), upd_ne (ne_of_none e ndx)]
      exact e
    refine ⟨x, dx, rfl, upd_same, fun dl HE f2 nl nlx hd => ⟨rfl, ?_⟩⟩
    have u3 : Same HD HE := fun z o e => f2.at (by simpa using ne_of_none e nx) (Z1 _ _ e)
    obtain ⟨⟨dd, hx2⟩, _⟩ := hd
    have E3 := E2.add u3 (dt_own (kv := []) (.inl rfl) (new_out (there_same hM (SB.trans U2)) nx) hx2)
    have U3 := U2.trans u3
    clear E2 U2 u3 Z1 f2 nl nlx hx2 ne ndx nx
    walk_at "rd"
    refine rd_make ?_
    walk_at "rd"
    intro y dy ny ndy ney
    have Z2 : Same HE (upd (upd HE dy (.own y)) y (.ins T.c_Outgoing dy [])) := fun z o e => by
      rw [upd_ne (ne_of_none e ny), upd_ne (ne_of_none e ndy)]
      exact e
    refine ⟨y, dy, rfl, upd_same, fun l3 HF f4 nl3 ho => ⟨rfl, ?_⟩⟩
    have u4 : Same HE HF := fun z o e => f4 z o (by simpa using ne_of_none e ny) (Z2 _ _ e)
    obtain ⟨⟨dd4, hz4⟩, _⟩ := ho
    have ty : Dt T.CP M HF (.dict []) (.ref y) := dt_own (.inr (.inl rfl)) (new_out (there_same hM (SB.trans U3)) ny) hz4
    have E4 := E3.s u4
    have U4 := U3.trans u4
    clear E3 U3 u4 Z2 f4 nl3 hz4 ney ndy ny
    walk_at "rd"
    refine rd_disp rfl fun c5 m5 => ?_
    have u5 := same_new (o := .tup [.ref y]) m5
    have E5 := E4.add u5 (dt_tup upd_same (dtAll_cons (ty.s u5) dtAll_nil))
    have U5 := U4.trans u5
    clear E4 U4 u5 ty
    generalize upd HF c5 (.tup [.ref y]) = HG at E5 U5
    walk_at "rd"
    refine rd_disp rfl fun c6 m6 => ?_
    simp only [List.cons_append, List.nil_append] at E5
    have u6 := same_new (o := .lst [.int (10 ^ (19 : Int).toNat), .ref c1, .ref c2, .ref x, .ref c5]) m6
    walk_at "rd"
    refine ⟨b, c6, _, _, rfl, rfl, (U5.trans u6) _ _ hB, upd_same, small (by simp), fun e ne => ?_⟩
    have DE := (DB.s (U5.trans u6)).append (E5.s u6)
    have u7 := same_new (o := .lst ([.non, .bl true, .int 0, .int 1, .int (-1), .int 2, .str "row", .str "", .ref a1, .ref a2, .ref a3, .ref a4, .ref a5, .ref a6, .ref a8, .ref a9, v] ++ [.int (10 ^ (19 : Int).toNat), .ref c1, .ref c2, .ref x, .ref c5])) ne
    have DF := DE.s u7
    have SF := ((SB.trans U5).trans u6).trans u7
    have he := upd_same (H := upd HG c6 (.lst [.int (10 ^ (19 : Int).toNat), .ref c1, .ref c2, .ref x, .ref c5])) (a := e) (o := .lst ([.non, .bl true, .int 0, .int 1, .int (-1), .int 2, .str "row", .str "", .ref a1, .ref a2, .ref a3, .ref a4, .ref a5, .ref a6, .ref a8, .ref a9, v] ++ [.int (10 ^ (19 : Int).toNat), .ref c1, .ref c2, .ref x, .ref c5]))
    have eN : e ∉ [p, l] := (hh.same ((SB.trans U5).trans u6)).out ne
    clear DE E5 DB u7 u6 U5 SB hB
    generalize upd (upd HG c6 _) e _ = HH at DF SF he
    walk_at "rd"
    refine ⟨p, l, 22, rfl, by decide, by decide, hh.same SF, fun r HI r0 r1 hhI kI => ?_⟩
    refine rd_menuS (CP := T.CP) (M := M) (kI.at eN he) (DF.k (kI.more (by simp [mp, ml]))) r0 (by simpa using r1) fun d x hd hx => ?_
    refine q d x HI ?_ hx hhI ((FK.same SF).trans kI)
    simp only [List.cons_append, List.nil_append, List.mem_cons, List.not_mem_nil, or_false] at hd
    rcases hd with rfl | rfl | rfl | rfl | rfl | rfl | rfl | rfl | rfl | rfl | rfl | rfl | rfl | rfl | rfl | rfl | rfl | rfl | rfl | rfl | rfl | rfl
    all_goals first
      | exact smD0 (Nat.zero_le _) rfl
      | exact smD1 (by show 0 ≤ 10; decide) rfl (Nat.zero_le _)
      | exact smD1 (by show 1 ≤ 10; decide) rfl (Nat.zero_le _)
      | exact smD2 (by show 2 ≤ 10; decide) rfl (Nat.zero_le _) (Nat.zero_le _)
end
end Mw

/-! X18 -/
namespace Mw
open PySem L2
/-- a comprehension over zip of a tuple and a list of one length -/
theorem lc_tz {K : PySem.W.Frag} {a b : Addr} {xs ys : List V} {g : TG} {tt : TT} {te : TE} {vs : List Nat} {σ : L2.St} {H1 : Hp} {D : Addr} {Qd : Hp → Prop} (hl : xs.length = ys.length) (Pv : Nat → Hp → Prop) (h0 : Pv 0 (upd H1 D (.lst [])))
    (hq : ∀ i H, Pv i H → SqT K H a xs ∧ SqL K H b ys)
    (hs : ∀ (i : Nat) (x y : V) (t : Addr) (H : Hp), xs[i]? = some x → ys[i]? = some y → Pv i H → H t = none → g (.ref t) (wipe σ vs) (upd H t (.tup [x, y])) fun σ2 H2 => wipe σ2 vs = wipe σ vs ∧
      tt σ2 H2 fun b H3 => if b = true then te σ2 H3 fun y H4 => ∃ acc, H4 D = some (.lst acc) ∧ acc.length < sizeLine ∧ Pv (i + 1) (upd H4 D (.lst (acc ++ [y]))) else Pv (i + 1) H3)
    (hd : ∀ H, Pv ys.length H → Qd H) :
    ∃ W : Nat → Nat → Hp → Prop, (∃ m, W 0 m (upd H1 D (.lst []))) ∧ ∀ i m H, W i m H → (Itl2 K a b).stop i H ∧ Qd H ∨ (Itl2 K a b).go i H ∧ ∃ Nx : Hp → Prop, (∀ H', Nx H' → ∃ m', m' < m ∧ W (i + 1) m' H') ∧
      ∀ x H', (Itl2 K a b).yld i H x H' → g x (wipe σ vs) H' fun σ2 H2 => wipe σ2 vs = wipe σ vs ∧ tt σ2 H2 fun b H3 => if b = true then te σ2 H3 fun y H4 => ∃ acc, H4 D = some (.lst acc) ∧ acc.length < sizeLine ∧ Nx (upd H4 D (.lst (acc ++ [y]))) else Nx H3 := by
  refine ⟨fun i m H => m = ys.length - i ∧ i ≤ ys.length ∧ Pv i H, ⟨_, rfl, Nat.zero_le _, h0⟩, ?_⟩
  rintro i m H ⟨rfl, hi, hP⟩
  obtain ⟨q1, q2⟩ := hq i H hP
  by_cases e : i = ys.length
  · exact .inl ⟨⟨xs, ys, q1, q2, .inr (Nat.le_of_eq e.symm)⟩, hd H (e ▸ hP)⟩
  · have hlt : i < ys.length := by omega
    have hy : ys[i]? = some ys[i] := by simp [hlt]
    have hx : xs[i]? = some (xs[i]'(by omega)) := by simp
    refine .inr ⟨⟨xs, ys, _, _, q1, q2, hx, hy⟩, Pv (i + 1), fun H' h => ⟨ys.length - (i + 1), by omega, rfl, by omega, h⟩, ?_⟩
    rintro v H' ⟨t, x, y, rfl, ht, rfl, ex, ey⟩
    exact hs i x y t H (ex xs q1) (ey ys q2) hP ht
theorem rd_izipTL {K : PySem.W.Frag} {ta : TA} {σ : L2.St} {H : Hp} {R : It → Hp → Prop} (h : ta σ H fun vs H1 => ∃ a b xs ys, vs = [.ref a, .ref b] ∧ SqT K H1 a xs ∧ SqL K H1 b ys ∧ R (Itl2 K a b) H1) : iZipTL K ta σ H R := h
def spLDue (CP : Addr → Prop) : Sp := fun vs H Q _ => ∃ (i : Nat) (b : Addr) (n : Nat) (rs : List (List Int)) (M : List Addr) (d : PyData) (x : V), vs = [.int (i : Int), .ref b, .int (n : Int), x] ∧ i ≤ 7 ∧ i ≠ 3 ∧ i ≠ 4 ∧ LsAt H b rs ∧ n ≤ rs.length ∧ rs.length ≤ 1000 ∧ Dt CP M H d x ∧
  lenD d ≤ 900000 ∧ (itD d).length ≤ 1000 ∧ (∀ e ∈ itD d, lenD e ≤ 900000) ∧ ∀ H', Same H H' → Q (.str (if okW i n rs d = true then "let" else nmJ (jW i))) H'
section
variable {P : Program} {w : World} {K : PySem.W.Frag} {mg : Str → Option Value} {base : Heap}
local macro_rules | `(tactic| walk_at "rd") => `(tactic| (repeat (first
  | ((with_reducible refine' rd_var ?h0 ?_); (case h0 => rfl))
  | with_reducible refine rd_c ?_
  | with_reducible refine rd_op ?_
  | with_reducible refine rd_nil ?_
  | with_reducible refine rd_cons ?_
  | with_reducible refine rd_tup ?_
  | with_reducible refine rd_lst ?_
  | with_reducible refine rd_ifs ?_
  | with_reducible refine rd_seq ?_
  | with_reducible refine rd_next ?_
  | with_reducible refine rd_ret ?_
  | with_reducible refine rd_asg ?_
  | ((with_reducible refine' rd_gset ?hs ?_); (case hs => ((simp only [L2.start, List.map_cons, List.map_nil, List.length_cons, List.length_nil, List.cons_append, List.nil_append, List.set_cons_zero, List.set_cons_succ, Nat.reduceAdd, Nat.reduceSub, Nat.zero_add, List.reduceReplicate]); rfl)))
  | with_reducible refine rd_drop ?_
  | with_reducible refine rd_test ?_
  | with_reducible refine rd_B ?_
  | with_reducible refine rd_bl ?_
  | with_reducible refine rd_blP ?_
  | with_reducible refine rd_andV ?_
  | with_reducible refine rd_orV ?_
  | with_reducible refine rd_notV ?_
  | with_reducible refine rd_and ?_
  | with_reducible refine rd_or ?_
  | with_reducible refine rd_not ?_
  | with_reducible refine rd_chain ?_
  | with_reducible refine rd_dput ?_
  | with_reducible refine rd_dget ?_
  | with_reducible refine rd_cb ?_
  | with_reducible refine rd_call ?_
  | with_reducible refine rd_un ?_
  | with_reducible refine rd_sl ?_
  | with_reducible refine rd_nopart ?_
  | with_reducible refine rd_part ?_
  | with_reducible refine rd_intP ?_
  | with_reducible refine rd_rU ?_
  | with_reducible refine rd_fld ?_
  | with_reducible refine rd_eqI ?_
  | with_reducible refine rd_neI ?_
  | with_reducible refine rd_mko ?_
  | with_reducible refine rd_bm ?_
  | with_reducible refine rd_gsub ?_
  | with_reducible refine rd_i0 ?_)))
theorem ok_law_due (T : Tx K mg) (B : Bk K mg T) : FnOk P w K mg base CX0 3 B.law_due.f B.law_due.fd ["which", "blocks", "synced", "thing"] (spLDue T.CP) := by
  have G_law_is_row := ok_law_is_row (P := P) (w := w) (base := base) T B
  have G_law_is_within := ok_law_is_within (P := P) (w := w) (base := base) T B
  refine B.law_due.F.ok sc_law_due (fun vs H Q E h => ?_) (fun cdv A outer s H vs Q E hr h => ?_)
  · obtain ⟨i, b, n, rs, M, d, x, rfl, _⟩ := h
    rfl
  · obtain ⟨i, b, n, rs, M, d, x, rfl, hi, i3, i4, ⟨as, has, hra⟩, hn, hrs, hdx, hl9, hit, hie, q⟩ := h
    have la := hra.1
    refine ⟨_, (pss_cons (ps_if (pt_cmpR op_lt (pv 0) pe_int (nomark _)) (pss_one (ps_ret (pe_ifExp (pt_val (pe_call G_law_is_row (hr.mono (by omega)) rfl B.law_is_row.m B.law_is_row.F.kp B.law_is_row.b .nil pass0 (pa_cons (pv 3) pa_nil))) pe_str pe_str))) pss_nil)
      (pss_cons (ps_if (pt_cmpR op_eq (pv 0) pe_int (nomark _)) (pss_cons (ps_setLc (i := 4) (own := [("row", 6)]) (g := gName 6) rfl sc_law_due.nd rfl rfl (sw_true rfl rfl rfl (by decide +kernel)) (pi_list (pe_slice sl_list (pv 1) (po_some (pv 2)) po_none)) (blkOk_by (own := [("row", 6)]) (N := ["which", "blocks", "synced", "thing", "sizes", "right", "row", "many", "size"]) (sc := defScope s_law_due) (by decide +kernel)) (fun _ _ _ _ _ => pg_name (i := 6) sc_law_due.nd rfl (Or.inl rfl)) (fun _ _ _ _ _ => pts_nil) (fun _ _ _ _ _ => (pe_callB (id := "len") (r := rLenS K) call_len_seq (by rfl) T.b_len (by decide +kernel) (pa_cons (pv 6) pa_nil))))
      (pss_cons (ps_if (PW.pt (pw_or (pt_not (pt_val (pe_callB call_isi (by rfl) T.b_isinstance (by decide +kernel) (pa_cons (pv 3) (pa_cons (pe_bltn (v := .ty "tuple") (by rfl) T.b_tuple (by decide +kernel) rfl) pa_nil))))) (pw_or1 (pt_cmpR op_ne (pe_callB call_len_seq (by rfl) T.b_len (by decide +kernel) (pa_cons (pv 3) pa_nil)) (pe_callB call_len_seq (by rfl) T.b_len (by decide +kernel) (pa_cons (pv 4) pa_nil)) (nomark _))))) (pss_one (ps_ret pe_str)) pss_nil)
      (pss_cons (ps_setLc (i := 5) (own := [("many", 7), ("size", 8)]) (g := (gTup K 2 (gCons (gName 7) (gCons (gName 8) gNil)))) rfl sc_law_due.nd rfl rfl (sw_true rfl rfl rfl (by decide +kernel)) (pi_zipTL (by rfl) T.b_zip (pa_cons (pv 3) (pa_cons (pv 4) pa_nil))) (blkOk_by (own := [("many", 7), ("size", 8)]) (N := ["which", "blocks", "synced", "thing", "sizes", "right", "row", "many", "size"]) (sc := defScope s_law_due) (by decide +kernel)) (fun _ _ _ _ _ => (pg_tup (by rfl) (pgs_cons (pg_name (i := 7) sc_law_due.nd rfl (Or.inl rfl)) (pgs_cons (pg_name (i := 8) sc_law_due.nd rfl (Or.inl rfl)) pgs_nil)))) (fun _ _ _ _ _ => pts_nil) (fun _ _ _ _ _ => (pe_call G_law_is_within (hr.mono (by omega)) rfl B.law_is_within.m B.law_is_within.F.kp B.law_is_within.b .nil pass0 (pa_cons (pv 7) (pa_cons pe_int (pa_cons (pv 8) pa_nil))))))
      (pss_one (ps_ret (pe_ifExp (pt_val (pe_callB (cr_all rfl) (by rfl) T.b_all (by decide +kernel) (pa_cons (pv 5) pa_nil))) pe_str pe_str)))))) pss_nil)
      (pss_cons (ps_if (pt_cmpR op_eq (pv 0) pe_int (nomark _)) (pss_one (ps_ret (pe_ifExp (pt_val (pe_call G_law_is_within (hr.mono (by omega)) rfl B.law_is_within.m B.law_is_within.F.kp B.law_is_within.b .nil pass0 (pa_cons (pv 3) (pa_cons pe_int (pa_cons (pe_callB call_len_seq (by rfl) T.b_len (by decide +kernel) (pa_cons (pv 1) pa_nil)) pa_nil))))) pe_str pe_str))) pss_nil)
      (pss_one (ps_ret (pe_ifExp (PW.pt (pw_and (pt_val (pe_callB call_isiT (by rfl) T.b_isinstance (by decide +kernel) (pa_cons (pv 3) (pa_cons (pe_tup (pa_cons (pe_bltn (v := .ty "list") (by rfl) T.b_list (by decide +kernel) rfl) (pa_cons (pe_bltn (v := .ty "tuple") (by rfl) T.b_tuple (by decide +kernel) rfl) pa_nil))) pa_nil)))) (pw_and1 (pt_val (pe_callB (cr_all rfl) (by rfl) T.b_all (by decide +kernel) (pa_cons (pe_lc (own := [("row", 6)]) (g := gName 6) rfl sc_law_due.nd (pi_seq (pv 3)) (blkOk_by (own := [("row", 6)]) (N := ["which", "blocks", "synced", "thing", "sizes", "right", "row", "many", "size"]) (sc := defScope s_law_due) (by decide +kernel)) (fun _ _ _ _ _ => pg_name (i := 6) sc_law_due.nd rfl (Or.inl rfl)) (fun _ _ _ _ _ => pts_nil) (fun _ _ _ _ _ => (pe_call G_law_is_row (hr.mono (by omega)) rfl B.law_is_row.m B.law_is_row.F.kp B.law_is_row.b .nil pass0 (pa_cons (pv 6) pa_nil)))) pa_nil)))))) pe_str pe_str)))))), ?_⟩
    walk_at "rd"
    refine rd_ite (fun h1 => ?_) (fun h1 => ?_)
    · have i3' : i < 3 := by
        have := of_decide_eq_true h1
        omega
      walk_at "rd"
      refine rd_ifx ?_
      walk_at "rd"
      refine ⟨M, d, x, rfl, hdx, hl9, fun H1 s1 => ?_⟩
      have q1 := q H1 s1
      rw [show okW i n rs d = isRowD d by unfold okW; rw [if_pos i3']] at q1
      walk_at "rd"
      refine rd_ite (fun z => ?_) (fun z => ?_)
      · rw [if_pos z] at q1
        walk_at "rd"
        exact q1
      · rw [if_neg (by rw [z]; exact Bool.false_ne_true), show nmJ (jW i) = "row" by unfold jW; rw [if_pos i3']; rfl] at q1
        walk_at "rd"
        exact q1
    · have i3' : ¬ i < 3 := by
        have := of_decide_eq_false h1
        omega
      walk_at "rd"
      refine rd_ite (fun h2 => ?_) (fun h2 => ?_)
      · have i5 : i = 5 := by
          have : (i : Int) = 5 := by simpa using h2
          omega
        subst i5
        walk_at "rd"
        show iList _ _ _ _ _
        refine rd_ilist ?_
        walk_at "rd"
        refine ⟨b, _, rfl, SqL.of has, fun c nc => ?_⟩
        have ec : cutV (as.map V.ref) (some (n : Int)) none = (as.drop n).map V.ref := by
          unfold cutV
          rw [HT.sIx_none, HT.sIx_nat, List.length_map, Nat.min_eq_left (by omega), List.take_of_length_le (by rw [List.length_drop, List.length_map]; omega), List.map_drop]
        rw [ec]
        have s1 := same_new (o := .lst ((as.drop n).map V.ref)) nc
        have hrd := hra.drop n
        refine ⟨c, rfl, ⟨_, SqL.of upd_same⟩, fun D hD => lc_list (K := K) (a := c) (xs := (as.drop n).map V.ref) (fun i H1 => Same (upd H c (.lst ((as.drop n).map V.ref))) H1 ∧ H1 D = some (.lst ((((rs.drop n).take i).map fun r => (r.length : Int)).map V.int))) ⟨same_new hD, upd_same⟩ (fun i H1 _ hh => SqL.of (hh.1 _ _ upd_same)) ?_ ?_⟩
        · rintro i y H1 hi' ⟨hs, hacc⟩
          obtain ⟨a1, r1, rfl, ea, er, hr1⟩ := hrd.get hi'
          refine ⟨rfl, ?_⟩
          refine rd_tyes ?_
          refine rd_yes rfl ?_
          walk_at "rd"
          refine ⟨a1, _, rfl, .inr (SqT.of (hs _ _ (s1 _ _ hr1.1))), ?_⟩
          refine ⟨_, hacc, small' (by rw [List.length_map, List.length_map, List.length_take, List.length_drop]; omega), fun z o ez => (upd_ne (ne_of_none ez hD)).trans (hs z o ez), ?_⟩
          rw [upd_same, take_snoc er, List.map_append, List.map_append, List.length_map]
          rfl
        · rintro H1 ⟨hs, hacc⟩
          have hrl := hrd.1
          rw [List.length_map, hrl, List.take_length] at hacc
          have s2 := s1.trans hs
          clear s1 hs
          walk_at "rd"
          refine dt_isT T.W (hdx.s s2) ?_
          walk_at "rd"
          have q1 := q H1 s2
          rw [show okW 5 n rs d = cutB (rs.drop n) d from rfl, show nmJ (jW 5) = "cut" from rfl] at q1
          refine rd_ite (fun h3 => ?_) (fun h3 => ?_)
          · refine rd_yes rfl ?_
            rw [show cutB (rs.drop n) d = false by cases d <;> first | rfl | cases h3] at q1
            walk_at "rd"
            exact q1
          · cases d with
            | tuple ds =>
              obtain ⟨t, xs, rfl, ht0, hx⟩ := dt_tup' hdx
              have ht := s2 _ _ ht0
              have lx := hx.len
              walk_at "rd"
              refine ⟨t, _, rfl, .inr (SqT.of ht), ?_⟩
              walk_at "rd"
              refine ⟨D, _, rfl, .inl (SqL.of hacc), ?_⟩
              walk_at "rd"
              rw [List.length_map, List.length_map]
              refine rd_ite (fun h4 => ?_) (fun h4 => ?_)
              · have ne : ¬ ((ds.length : Nat) : Int) = ((rs.drop n).length : Nat) := by
                  have : ¬ ((xs.length : Nat) : Int) = ((rs.drop n).length : Nat) := by simpa using h4
                  omega
                rw [show cutB (rs.drop n) (.tuple ds) = false from cutB_no (decide_eq_false ne)] at q1
                walk_at "rd"
                exact q1
              · have eq : xs.length = (rs.drop n).length := by
                  have : ((xs.length : Nat) : Int) = ((rs.drop n).length : Nat) := by simpa using h4
                  omega
                have hxl : xs.length ≤ 1000 := by
                  rw [eq, List.length_drop]
                  omega
                walk_at "rd"
                refine rd_izipTL ?_
                walk_at "rd"
                refine ⟨t, D, _, _, rfl, SqT.of ht, SqL.of hacc, fun D2 hD2 => lc_tz (K := K) (a := t) (b := D) (xs := xs) (ys := ((rs.drop n).map fun r => (r.length : Int)).map V.int) (by rw [List.length_map, List.length_map]; exact eq)
                  (fun i H2 => Same H1 H2 ∧ H2 D2 = some (.lst (((askR (rs.drop n) ds).take i).map V.bl))) ⟨same_new hD2, upd_same⟩ (fun i H2 hh => ⟨SqT.of (hh.1 _ _ ht), SqL.of (hh.1 _ _ hacc)⟩) ?_ ?_⟩
                · rintro i y1 y2 tt H2 hx1 hy1 ⟨hs, hacc2⟩ htt
                  obtain ⟨d1, ed, hd1⟩ := hx.get' hx1
                  obtain ⟨z1, ez1, rfl⟩ := mapint_get hy1
                  rw [List.getElem?_map] at ez1
                  cases er : (rs.drop n)[i]? with
                  | none =>
                    rw [er] at ez1
                    cases ez1
                  | some r =>
                    rw [er] at ez1
                    have ez2 : z1 = (r.length : Int) := (Option.some.inj ez1).symm
                    subst ez2
                    have s3 := hs.trans (same_new (o := .tup [y1, V.int (r.length : Int)]) htt)
                    have hDt : D2 ≠ tt := ne_of_none hacc2 htt
                    refine ⟨tt, _, rfl, SqT.of upd_same, rfl, _, _, rfl, _, _, rfl, rfl, ?_⟩
                    refine ⟨rfl, ?_⟩
                    refine rd_tyes ?_
                    refine rd_yes rfl ?_
                    walk_at "rd"
                    refine ⟨M, d1, y1, 0, (r.length : Nat), rfl, (hd1.s s2).s s3, ?_⟩
                    have ei : inI 0 (r.length : Nat) d1 = isNb ((r.length : Nat) + 1) d1 := by
                      cases d1 with
                      | int j =>
                        show (decide (0 ≤ j) && decide (j ≤ (r.length : Nat))) = (decide (0 ≤ j) && decide (j < (r.length : Nat) + 1))
                        congr 1
                        exact decide_eq_decide.mpr (by omega)
                      | _ => rfl
                    rw [ei]
                    refine ⟨_, (upd_ne hDt).trans hacc2, small' (by rw [List.length_map, List.length_take]; have := (List.getElem?_eq_some_iff.mp hx1).1; have := hxl; omega), fun b' o eb => (upd_ne (ne_of_none eb hD2)).trans (s3 b' o eb), ?_⟩
                    rw [upd_same, take_snoc (askR_get er ed), List.map_append]
                    rfl
                · rintro H2 ⟨hs, hacc2⟩
                  have ll : (askR (rs.drop n) ds).length = (((rs.drop n).map fun r => (r.length : Int)).map V.int).length := by
                    unfold askR
                    rw [List.length_map, List.length_zip, List.length_map, List.length_map]
                    omega
                  rw [← ll, List.take_length] at hacc2
                  walk_at "rd"
                  refine rd_ifx ?_
                  walk_at "rd"
                  refine ⟨D2, _, rfl, SqL.of hacc2, ?_⟩
                  have z := q H2 (s2.trans hs)
                  rw [show okW 5 n rs (.tuple ds) = cutB (rs.drop n) (.tuple ds) from rfl, show cutB (rs.drop n) (.tuple ds) = (decide ((ds.length : Int) = ((rs.drop n).length : Nat)) && (askR (rs.drop n) ds).all id) from rfl, show decide ((ds.length : Int) = ((rs.drop n).length : Nat)) = true from decide_eq_true (by omega), Bool.true_and, show nmJ (jW 5) = "cut" from rfl] at z
                  walk_at "rd"
                  refine rd_ite (fun zz => ?_) (fun zz => ?_)
                  · rw [if_pos zz] at z
                    walk_at "rd"
                    exact z
                  · rw [if_neg (by rw [zz]; exact Bool.false_ne_true)] at z
                    walk_at "rd"
                    exact z
            | _ => cases h3
      · have i5 : i ≠ 5 := by
          have : ¬ (i : Int) = 5 := by simpa using h2
          omega
        walk_at "rd"
        refine rd_ite (fun h3 => ?_) (fun h3 => ?_)
        · have i6 : i = 6 := by
            have : (i : Int) = 6 := by simpa using h3
            omega
          subst i6
          walk_at "rd"
          refine rd_ifx ?_
          walk_at "rd"
          refine ⟨b, _, rfl, .inl (SqL.of has), ?_⟩
          walk_at "rd"
          rw [List.length_map, la]
          refine ⟨M, d, x, 0, (rs.length : Nat), rfl, hdx, ?_⟩
          have q1 := q H (Same.refl H)
          have eo : okW 6 n rs d = inI 0 (rs.length : Nat) d := by
            show isNb ((rs.length : Nat) + 1) d = _
            cases d with
            | int j =>
              show (decide (0 ≤ j) && decide (j < (rs.length : Nat) + 1)) = (decide (0 ≤ j) && decide (j ≤ (rs.length : Nat)))
              congr 1
              exact decide_eq_decide.mpr (by omega)
            | _ => rfl
          rw [eo] at q1
          walk_at "rd"
          refine rd_ite (fun z => ?_) (fun z => ?_)
          · rw [if_pos z] at q1
            walk_at "rd"
            exact q1
          · rw [if_neg (by rw [z]; exact Bool.false_ne_true)] at q1
            walk_at "rd"
            exact q1
        · have i6 : i ≠ 6 := by
            have : ¬ (i : Int) = 6 := by simpa using h3
            omega
          have i7 : i = 7 := by omega
          subst i7
          walk_at "rd"
          refine rd_ifx ?_
          walk_at "rd"
          refine rd_disp rfl fun tp ntp => ?_
          have s1 := same_new (o := .tup [.ty "list", .ty "tuple"]) ntp
          walk_at "rd"
          refine dt_isLT T.W (hdx.s s1) upd_same ?_
          walk_at "rd"
          refine rd_ite (fun hb => ?_) (fun hb => ?_)
          · obtain ⟨a, bb, xs, rfl, ha, hx, hbl⟩ := dt_seq hdx hb
            have lx := hx.len
            walk_at "rd"
            refine rd_iseqV rfl (ha.s s1) (fun D hD => lc_b (K := K) (a := a) (b := bb) (xs := xs) (fun i H1 => Same (upd H tp (.tup [.ty "list", .ty "tuple"])) H1 ∧ H1 D = some (.lst ((((itD d).take i).map isRowD).map V.bl))) ⟨same_new hD, upd_same⟩ (fun i H1 _ hh => (ha.s s1).s hh.1) ?_ ?_)
            · rintro i y H1 hi ⟨hs, hacc⟩
              obtain ⟨d1, ed, hd1⟩ := hx.get' hi
              have hi2 : i < xs.length := (List.getElem?_eq_some_iff.mp hi).1
              refine ⟨rfl, ?_⟩
              refine rd_tyes ?_
              refine rd_yes rfl ?_
              walk_at "rd"
              refine ⟨M, d1, y, rfl, hd1.s (s1.trans hs), hie d1 (List.mem_of_getElem? ed), fun H2 s2 => ?_⟩
              refine ⟨_, s2 _ _ hacc, small' (by rw [List.length_map, List.length_map, List.length_take]; omega), fun z o ez => (upd_ne (ne_of_none ez hD)).trans (s2 _ _ (hs z o ez)), ?_⟩
              rw [upd_same, take_snoc ed, List.map_append, List.map_append]
              rfl
            · rintro H1 ⟨hs, hacc⟩
              rw [← lx, List.take_length] at hacc
              refine ⟨D, _, rfl, SqL.of hacc, ?_⟩
              have q1 := q H1 (s1.trans hs)
              rw [show okW 7 n rs d = ((itD d).map isRowD).all id from hbl] at q1
              walk_at "rd"
              refine rd_ite (fun z => ?_) (fun z => ?_)
              · rw [if_pos z] at q1
                walk_at "rd"
                exact q1
              · rw [if_neg (by rw [z]; exact Bool.false_ne_true)] at q1
                walk_at "rd"
                exact q1
          · have q1 := q _ s1
            have eo : okW 7 n rs d = false := by
              show blkB d = false
              cases d <;> first | rfl | cases hb
            rw [eo] at q1
            walk_at "rd"
            exact q1
end
end Mw

/-! X19 -/
namespace Mw
open PySem L2
theorem rd_par {i j : Nat} {ta : TA} {D : Ends} {σ : L2.St} {H : Hp} (h : ta σ H fun vs H1 => ∃ v w, vs = [v, w] ∧ D.nx ((σ.set i (some v)).set j (some w)) H1) : tPar i j ta D σ H := h
mutual
theorem Dt.fresh {CP : Addr → Prop} {M : List Addr} {H : Hp} {q : Addr} (n : H q = none) : ∀ (d : PyData) (v : V), Dt CP M H d v → Dt CP (q :: M) H d v
  | .none, v, h => by simpa only [Dt] using h
  | .bool b, v, h => by simpa only [Dt] using h
  | .int i, v, h => by simpa only [Dt] using h
  | .str s, v, h => by simpa only [Dt] using h
  | .list ds, v, h => by
    simp only [Dt] at h ⊢
    obtain ⟨a, xs, e, nm, ha, r⟩ := h
    exact ⟨a, xs, e, by simp [nm, ne_of_none ha n], ha, DtAll.fresh n ds xs r⟩
  | .tuple ds, v, h => by
    simp only [Dt] at h ⊢
    obtain ⟨a, xs, e, ha, r⟩ := h
    exact ⟨a, xs, e, ha, DtAll.fresh n ds xs r⟩
  | .dict _, v, h => by
    simp only [Dt] at h ⊢
    obtain ⟨a, e, nm, ha | ⟨C, dx, fs, c, ha⟩⟩ := h
    · exact ⟨a, e, by simp [nm, ne_of_none ha n], .inl ha⟩
    · exact ⟨a, e, by simp [nm, ne_of_none ha n], .inr ⟨C, dx, fs, c, ha⟩⟩
theorem DtAll.fresh {CP : Addr → Prop} {M : List Addr} {H : Hp} {q : Addr} (n : H q = none) : ∀ (ds : List PyData) (xs : List V), DtAll CP M H ds xs → DtAll CP (q :: M) H ds xs
  | [], xs, h => by simpa only [DtAll] using h
  | d :: ds, xs, h => by
    simp only [DtAll] at h ⊢
    obtain ⟨x, r, e, h1, h2⟩ := h
    exact ⟨x, r, e, Dt.fresh n d x h1, DtAll.fresh n ds r h2⟩
end
mutual
theorem Dt.mono {CP : Addr → Prop} {M N : List Addr} {H : Hp} (m : ∀ b ∈ N, b ∈ M) : ∀ (d : PyData) (v : V), Dt CP M H d v → Dt CP N H d v
  | .none, v, h => by simpa only [Dt] using h
  | .bool b, v, h => by simpa only [Dt] using h
  | .int i, v, h => by simpa only [Dt] using h
  | .str s, v, h => by simpa only [Dt] using h
  | .list ds, v, h => by
    simp only [Dt] at h ⊢
    obtain ⟨a, xs, e, nm, ha, r⟩ := h
    exact ⟨a, xs, e, fun z => nm (m a z), ha, DtAll.mono m ds xs r⟩
  | .tuple ds, v, h => by
    simp only [Dt] at h ⊢
    obtain ⟨a, xs, e, ha, r⟩ := h
    exact ⟨a, xs, e, ha, DtAll.mono m ds xs r⟩
  | .dict _, v, h => by
    simp only [Dt] at h ⊢
    obtain ⟨a, e, nm, ha⟩ := h
    exact ⟨a, e, fun z => nm (m a z), ha⟩
theorem DtAll.mono {CP : Addr → Prop} {M N : List Addr} {H : Hp} (m : ∀ b ∈ N, b ∈ M) : ∀ (ds : List PyData) (xs : List V), DtAll CP M H ds xs → DtAll CP N H ds xs
  | [], xs, h => by simpa only [DtAll] using h
  | d :: ds, xs, h => by
    simp only [DtAll] at h ⊢
    obtain ⟨x, r, e, h1, h2⟩ := h
    exact ⟨x, r, e, Dt.mono m d x h1, DtAll.mono m ds r h2⟩
end
theorem PoolAt.fk {H H' : Hp} {p l : Addr} {M : List Addr} (h : PoolAt H p l) (k : FK M H H') (n1 : p ∉ M) (n2 : l ∉ M) : PoolAt H' p l := by
  obtain ⟨s, c, cs, h1, h2, h3⟩ := h
  exact ⟨s, c, cs, k.at n1 h1, k.at n2 h2, h3⟩
/-- the pool and a disk apart -/
structure DS (C p pl a l : Addr) (n : Nat) (rs : List (List Int)) (H : Hp) : Prop where
  pool : PoolAt H p pl
  disk : DiskAt C H a l n rs
  nle : n ≤ rs.length
  lp : l ≠ p
  ll : l ≠ pl
section
variable {C p pl a l : Addr} {n : Nat} {rs : List (List Int)} {H H' : Hp}
theorem DS.ap (h : DS C p pl a l n rs H) : a ≠ p ∧ a ≠ pl ∧ a ≠ l := by
  obtain ⟨⟨dx, ha⟩, hd⟩ := h.disk
  obtain ⟨us, hp⟩ := h.pool.p
  obtain ⟨ws, hl⟩ := h.pool.l
  exact ⟨ne_of ha hp (by intro z; cases z), ne_of ha hl (by intro z; cases z), h.disk.ne⟩
theorem DS.same (h : DS C p pl a l n rs H) (s : Same H H') : DS C p pl a l n rs H' := ⟨h.pool.same s, h.disk.s s, h.nle, h.lp, h.ll⟩
theorem DS.draw (h : DS C p pl a l n rs H) (hp : PoolAt H' p pl) (k : FK [p, pl] H H') : DS C p pl a l n rs H' := by
  obtain ⟨n1, n2, _⟩ := h.ap
  exact ⟨hp, h.disk.fk k (by simp [n1, n2]) (by simp [h.lp, h.ll]), h.nle, h.lp, h.ll⟩
theorem DS.post (h : DS C p pl a l n rs H) (w : WPost C H a l n rs H') : ∃ l' n' rs', DS C p pl a l' n' rs' H' ∧ FK [a, l] H H' ∧ (l' = l ∨ H l' = none) ∧ rs'.length ≤ rs.length + 1 := by
  obtain ⟨n1, n2, _⟩ := h.ap
  obtain ⟨l', n', rs', f, hd, hl, hn, hr⟩ := w
  obtain ⟨us, hp⟩ := h.pool.p
  obtain ⟨ws, hpl⟩ := h.pool.l
  refine ⟨l', n', rs', ⟨h.pool.fk f (by simp [n1.symm, h.lp.symm]) (by simp [n2.symm, h.ll.symm]), hd, hn, ?_, ?_⟩, f, hl, hr⟩
  · rcases hl with rfl | hl
    · exact h.lp
    · exact (ne_of_none hp hl).symm
  · rcases hl with rfl | hl
    · exact h.ll
    · exact (ne_of_none hpl hl).symm
theorem DS.there (h : DS C p pl a l n rs H) : ∀ m ∈ [p, pl, a, l], ∃ o, H m = some o := by
  obtain ⟨⟨dx, ha⟩, hd⟩ := h.disk
  obtain ⟨us, hp⟩ := h.pool.p
  obtain ⟨ws, hl⟩ := h.pool.l
  obtain ⟨zs, hz⟩ := hd.l
  intro m hm
  simp only [List.mem_cons, List.not_mem_nil, or_false] at hm
  rcases hm with rfl | rfl | rfl | rfl
  · exact ⟨_, hp⟩
  · exact ⟨_, hl⟩
  · exact ⟨_, ha⟩
  · exact ⟨_, hz⟩
/-- a thing goes on behind a call -/
theorem thing_post {CP : Addr → Prop} {M : List Addr} {d : PyData} {x : V} {l' : Addr} (hx : Dt CP M H d x) (ma : a ∈ M) (ml : l ∈ M) (f : FK [a, l] H H') (hl : l' = l ∨ H l' = none) : Dt CP (l' :: M) H' d x := by
  have k : FK M H H' := f.more (by
    intro b hb
    simp only [List.mem_cons, List.not_mem_nil, or_false] at hb
    rcases hb with rfl | rfl
    · exact ma
    · exact ml)
  rcases hl with rfl | hl
  · have k2 : FK (l' :: M) H H' := k.more (fun b hb => List.mem_cons_of_mem _ hb)
    refine Dt.keep k2 d x ?_
    exact Dt.mono (by intro b hb; rcases List.mem_cons.mp hb with rfl | hb; exact ml; exact hb) d x hx
  · exact (Dt.fresh hl d x hx).k (k.more fun b hb => List.mem_cons_of_mem _ hb)
end
end Mw

/-! X20 -/
namespace Mw
open PySem L2
def spSecond (K : PySem.W.Frag) : Sp := fun vs H Q _ => ∃ (a : Addr) (ns : List Int), vs = [.ref a] ∧ SqL K H a (ns.map V.int) ∧ ∀ H', Q (.bl true) H'
def spLaw (K : PySem.W.Frag) : Sp := fun vs H Q _ => ∃ (a : Addr) (ns : List Int), vs = [.ref a] ∧ SqL K H a (ns.map V.int) ∧ ∀ H', Q (.bl true) H'
theorem word_one {CP : Addr → Prop} {C : Addr} {i : Nat} {a l : Addr} {n : Nat} {rs : List (List Int)} {M : List Addr} {d : PyData} {x : V} {H : Hp} {Q : VK} {E : XK} (hw : WPre CP C H i a l n rs M d x) (h : ∀ H', WPost C H a l n rs H' → Q (.str (if okW i n rs d = true then "let" else nmJ (jW i))) H') : spLWord CP C [.int (i : Int), .ref a, x] H Q E := by
  refine ⟨i, a, l, n, rs, M, d, x, rfl, hw, fun z H' p => ?_, fun z H' s => ?_⟩
  · have := h H' p
    rw [if_pos z] at this
    exact this
  · have := h H' (.same hw.disk hw.nle s)
    rw [if_neg (by rw [z]; exact Bool.false_ne_true)] at this
    exact this
theorem len21 : (repS "a" 21).length = 21 := by
  show ((List.replicate 21 ("a" : Str).cps).foldl (· ++ ·) #[]).size = 21
  rw [rep_size]
  rfl
theorem pc21 : isPc 20 (.str (repS "a" 21)) = false := by
  show okStr _ = false
  unfold okStr
  rw [len21]
  rfl
theorem pc0 : isPc 20 (.str "") = false := rfl
theorem ok_parcel : PyData.strOk "parcel" = true := by decide +kernel
theorem sh_pp : SeqAt.shaped (.list [.str "parcel", .str "parcel"]) = true := by
  simp [SeqAt.shaped, PyData.canLay0, PyData.canLayAll0, PyData.depth, PyData.depthAll, ok_parcel]
theorem ne_pp : (!PyData.eqv (.list [.str "parcel", .str "parcel"]) (.list [.str "parcel", .str "parcel"])) = false := by
  rw [SeqAt.eqv_refl _ (by simp [PyData.canLay0, PyData.canLayAll0, ok_parcel])]
  rfl
theorem nestT_tup {n : Nat} {d : PyData} : lenD (nestT (n + 1) d) = 1 ∧ itD (nestT (n + 1) d) = [nestT n d] := ⟨rfl, rfl⟩
theorem nestT_no : isPc 20 (nestT 21 (.int 0)) = false := by decide +kernel
theorem nestT_szd : szd (nestT 21 (.int 0)) ≤ 900000 := by decide +kernel
def NoPc (d : PyData) : Prop := isPc 20 d = false ∧ szd d ≤ 900000 ∧ SmD d
section
variable {P : Program} {w : World} {K : PySem.W.Frag} {mg : Str → Option Value} {base : Heap}
local macro_rules | `(tactic| walk_at "rd") => `(tactic| (repeat (first
  | ((with_reducible refine' rd_var ?h0 ?_); (case h0 => rfl))
  | with_reducible refine rd_c ?_
  | with_reducible refine rd_op ?_
  | with_reducible refine rd_nil ?_
  | with_reducible refine rd_cons ?_
  | with_reducible refine rd_tup ?_
  | with_reducible refine rd_lst ?_
  | with_reducible refine rd_ifs ?_
  | with_reducible refine rd_seq ?_
  | with_reducible refine rd_next ?_
  | with_reducible refine rd_ret ?_
  | with_reducible refine rd_asg ?_
  | ((with_reducible refine' rd_gset ?hs ?_); (case hs => ((simp only [L2.start, List.map_cons, List.map_nil, List.length_cons, List.length_nil, List.cons_append, List.nil_append, List.set_cons_zero, List.set_cons_succ, Nat.reduceAdd, Nat.reduceSub, Nat.zero_add, List.reduceReplicate]); rfl)))
  | with_reducible refine rd_drop ?_
  | with_reducible refine rd_test ?_
  | with_reducible refine rd_B ?_
  | with_reducible refine rd_bl ?_
  | with_reducible refine rd_blP ?_
  | with_reducible refine rd_andV ?_
  | with_reducible refine rd_orV ?_
  | with_reducible refine rd_notV ?_
  | with_reducible refine rd_and ?_
  | with_reducible refine rd_or ?_
  | with_reducible refine rd_not ?_
  | with_reducible refine rd_chain ?_
  | with_reducible refine rd_dput ?_
  | with_reducible refine rd_dget ?_
  | with_reducible refine rd_cb ?_
  | with_reducible refine rd_call ?_
  | with_reducible refine rd_un ?_
  | with_reducible refine rd_sl ?_
  | with_reducible refine rd_nopart ?_
  | with_reducible refine rd_part ?_
  | with_reducible refine rd_intP ?_
  | with_reducible refine rd_rU ?_
  | with_reducible refine rd_fld ?_
  | with_reducible refine rd_eqI ?_
  | with_reducible refine rd_neI ?_
  | with_reducible refine rd_mko ?_
  | with_reducible refine rd_bm ?_
  | with_reducible refine rd_gsub ?_
  | with_reducible refine rd_i0 ?_)))
theorem ok_law_second (T : Tx K mg) (B : Bk K mg T) : FnOk P w K mg base CX0 53 B.law_second.f B.law_second.fd ["script"] (spSecond K) := by
  have G_law_pool := ok_law_pool (P := P) (w := w) (base := base) T B
  have G_law_draw := ok_law_draw (P := P) (w := w) (base := base) T B
  have G_law_some := ok_law_some (P := P) (w := w) (base := base) T B
  have G_law_word := ok_law_word (P := P) (w := w) (base := base) T B
  have G_law_due := ok_law_due (P := P) (w := w) (base := base) T B
  have G_law_is_row := ok_law_is_row (P := P) (w := w) (base := base) T B
  have G_law_nested := ok_law_nested (P := P) (w := w) (base := base) T B
  have G_Disk_init := ok_disk_init (P := P) (w := w) (base := base) T B
  have G_Disk_write := ok_write (P := P) (w := w) (base := base) T B
  have G_Disk_sync := ok_sync (P := P) (w := w) (base := base) T B
  have G_Disk_blocks := ok_blocks (P := P) (w := w) (base := base) T B
  have G_Disk_synced := ok_synced (P := P) (w := w) (base := base) T B
  have G_Incoming_init := ok_inc_init (P := P) (w := w) (base := base) T B
  refine B.law_second.F.ok sc_law_second (fun vs H Q E h => ?_) (fun cdv A outer s H vs Q E hr h => ?_)
  · obtain ⟨a, ns, rfl, _⟩ := h
    rfl
  · obtain ⟨sc, ns, rfl, ha, q⟩ := h
    refine ⟨_, (pss_cons (ps_set (i := 1) sc_law_second.nd rfl (Or.inl rfl) (pe_call G_law_pool (hr.mono (by omega)) rfl B.law_pool.m B.law_pool.F.kp B.law_pool.b .nil pass0 (pa_cons (pv 0) pa_nil)))
      (pss_cons (ps_for PassesOwn.never rfl (pi_range1 (by rfl) T.b_range (pa_cons pe_int pa_nil)) (pg_name (i := 2) sc_law_second.nd rfl (Or.inl rfl)) (pss_cons (ps_set (i := 3) sc_law_second.nd rfl (Or.inr rfl) (pe_make0 (mk_of_Disk T B.Disk_init) G_Disk_init (hr.mono (by omega)) rfl T.g_Disk B.Disk_init.b .nil pass0))
      (pss_cons (ps_for PassesOwn.never rfl (pi_range1 (by rfl) T.b_range (pa_cons (pe_call G_law_draw (hr.mono (by omega)) rfl B.law_draw.m B.law_draw.F.kp B.law_draw.b .nil pass0 (pa_cons (pv 1) (pa_cons pe_int pa_nil))) pa_nil)) (pg_name (i := 4) sc_law_second.nd rfl (Or.inl rfl)) (pss_cons (ps_expr (pe_meth (pv 3) T.W_Disk.cl ⟨B.Disk_write.a, B.Disk_write.i, B.Disk_write.F.kp⟩ G_Disk_write (hr.mono (by omega)) B.Disk_write.b .nil passL (pa_cons (pe_tup (pa_cons pe_int (pa_cons pe_int pa_nil))) pa_nil)))
      (pss_one (ps_if (pt_cmpR op_eq (pe_call G_law_draw (hr.mono (by omega)) rfl B.law_draw.m B.law_draw.F.kp B.law_draw.b .nil pass0 (pa_cons (pv 1) (pa_cons pe_int pa_nil))) pe_int (nomark _)) (pss_one (ps_expr (pe_meth0 (pv 3) T.W_Disk.cl ⟨B.Disk_sync.a, B.Disk_sync.i, B.Disk_sync.F.kp⟩ G_Disk_sync (hr.mono (by omega)) B.Disk_sync.b .nil pass0))) pss_nil))))
      (pss_cons (ps_set (i := 5) sc_law_second.nd rfl (Or.inl rfl) (pe_call G_law_some (hr.mono (by omega)) rfl B.law_some.m B.law_some.F.kp B.law_some.b .nil pass0 (pa_cons (pv 1) pa_nil)))
      (pss_cons (ps_for PassesOwn.never rfl (pi_tup (pe_tup (pa_cons pe_int (pa_cons pe_int (pa_cons pe_int (pa_cons pe_int (pa_cons pe_int pa_nil))))))) (pg_name (i := 6) sc_law_second.nd rfl (Or.inl rfl)) (pss_cons (ps_par (i := 7) (j := 8) rfl sc_law_second.nd rfl rfl (by decide) rfl rfl (pa_cons (pe_meth0 (pv 3) T.W_Disk.cl ⟨B.Disk_blocks.a, B.Disk_blocks.i, B.Disk_blocks.F.kp⟩ G_Disk_blocks (hr.mono (by omega)) B.Disk_blocks.b .nil pass0) (pa_cons (pe_meth0 (pv 3) T.W_Disk.cl ⟨B.Disk_synced.a, B.Disk_synced.i, B.Disk_synced.F.kp⟩ G_Disk_synced (hr.mono (by omega)) B.Disk_synced.b .nil pass0) pa_nil)) rfl)
      (pss_one (ps_if (pt_cmpR op_ne (pe_call G_law_word (hr.mono (by omega)) rfl B.law_word.m B.law_word.F.kp B.law_word.b .nil pass0 (pa_cons (pv 6) (pa_cons (pv 3) (pa_cons (pv 5) pa_nil)))) (pe_call G_law_due (hr.mono (by omega)) rfl B.law_due.m B.law_due.F.kp B.law_due.b .nil pass0 (pa_cons (pv 6) (pa_cons (pv 7) (pa_cons (pv 8) (pa_cons (pv 5) pa_nil))))) (nomark _)) (pss_one (ps_ret pe_bl)) pss_nil))))
      (C8.pss_cut (ps_if (PW.pt (pw_and (pt_not (pt_val (pe_call G_law_is_row (hr.mono (by omega)) rfl B.law_is_row.m B.law_is_row.F.kp B.law_is_row.b .nil pass0 (pa_cons (pv 5) pa_nil)))) (pw_and1 (pt_cmpR op_ne (pe_call G_law_word (hr.mono (by omega)) rfl B.law_word.m B.law_word.F.kp B.law_word.b .nil pass0 (pa_cons pe_int (pa_cons (pv 3) (pa_cons (pv 5) pa_nil)))) pe_str (nomark _))))) (pss_one (ps_ret pe_bl)) pss_nil)
      (pss_cons (ps_set (i := 9) sc_law_second.nd rfl (Or.inr rfl) (pe_ix ix_list (pe_lst (pa_cons pe_str (pa_cons (pe_op op_mul_str pe_str pe_int) (pa_cons (pe_lst pa_nil) (pa_cons pe_dnewK (pa_cons (pe_tup (pa_cons (pe_lst pa_nil) pa_nil)) (pa_cons (pe_tup (pa_cons pe_str pa_nil)) (pa_cons (pe_call G_law_nested (hr.mono (by omega)) rfl B.law_nested.m B.law_nested.F.kp B.law_nested.b .nil pass0 (pa_cons pe_int (pa_cons pe_int pa_nil))) (pa_cons (pe_make0 (mk_of_Incoming T B.Incoming_init) G_Incoming_init (hr.mono (by omega)) rfl T.g_Incoming B.Incoming_init.b .nil pass0) (pa_cons (pe_tup (pa_cons (pe_make0 (mk_of_Disk T B.Disk_init) G_Disk_init (hr.mono (by omega)) rfl T.g_Disk B.Disk_init.b .nil pass0) pa_nil)) pa_nil)))))))))) (pe_call G_law_draw (hr.mono (by omega)) rfl B.law_draw.m B.law_draw.F.kp B.law_draw.b .nil pass0 (pa_cons (pv 1) (pa_cons pe_int pa_nil))) (fun _ _ => rfl)))
      (pss_one (ps_if (pt_cmpR (op_neD hr.units) (pe_lc (own := [("which", 6)]) (g := gName 6) rfl sc_law_second.nd (pi_tup (pe_tup (pa_cons pe_int (pa_cons pe_int pa_nil)))) (blkOk_by (own := [("which", 6)]) (N := ["script", "pool", "turn", "disk", "block", "thing", "which", "blocks", "synced", "none"]) (sc := defScope s_law_second) (by decide +kernel)) (fun _ _ _ _ _ => pg_name (i := 6) sc_law_second.nd rfl (Or.inl rfl)) (fun _ _ _ _ _ => pts_nil) (fun _ _ _ _ _ => (pe_call G_law_word (hr.mono (by omega)) rfl B.law_word.m B.law_word.F.kp B.law_word.b .nil pass0 (pa_cons (pv 6) (pa_cons (pv 3) (pa_cons (pv 9) pa_nil)))))) (pe_lst (pa_cons pe_str (pa_cons pe_str pa_nil))) (nomark _)) (pss_one (ps_ret pe_bl)) pss_nil)))))))))
      (pss_one (ps_ret pe_bl)))), ?_⟩
    walk_at "rd"
    refine ⟨sc, ns, rfl, ha, fun p pl H0 np npl hh0 s0 => ?_⟩
    walk_at "rd"
    refine ⟨5, rfl, by decide, by decide, for_range (lo := 0) (n := 5) (fun i σ H1 => PoolAt H1 p pl ∧ ∃ u2 u3 u4 u5 u6 u7 u8 u9 : Option V, σ = [some (.ref sc), some (.ref p), u2, u3, u4, u5, u6, u7, u8, u9])
      ⟨hh0, _, _, _, _, _, _, _, _, rfl⟩ ?_ ?_⟩
    · rintro i σ H1 hi ⟨hh1, u2, u3, u4, u5, u6, u7, u8, u9, rfl⟩
      walk_at "rd"
      refine rd_make ?_
      walk_at "rd"
      intro a dx na ndx ne
      have S0 : Same H1 (upd (upd H1 dx (.own a)) a (.ins T.c_Disk dx [])) := fun z o e => by
        rw [upd_ne (ne_of_none e na), upd_ne (ne_of_none e ndx)]
        exact e
      refine ⟨a, dx, rfl, upd_same, fun dl H2 f2 ndl nda hd => ⟨rfl, ?_⟩⟩
      have ndl1 := S0.free ndl
      have S1 : Same H1 H2 := fun z o e => f2.at (by simpa using ne_of_none e na) (S0 _ _ e)
      obtain ⟨us, hp⟩ := hh1.p
      obtain ⟨ws, hpl⟩ := hh1.l
      have D2 : DS T.c_Disk p pl a dl 0 [] H2 := ⟨hh1.same S1, hd, Nat.le_refl _, (ne_of_none hp ndl1).symm, (ne_of_none hpl ndl1).symm⟩
      clear S1 S0 ndl1 nda f2 ndl hd hp hpl ne na ndx hh1
      walk_at "rd"
      show iRng1 _ _ _ _
      refine rd_rng1 ?_
      walk_at "rd"
      refine ⟨p, pl, 4, rfl, by decide, by decide, D2.pool, fun r H3 r0 r1 hh3 k3 => ?_⟩
      have D3 := D2.draw hh3 k3
      clear D2 hh3 k3
      obtain ⟨r, rfl⟩ := Int.eq_ofNat_of_zero_le r0
      walk_at "rd"
      refine ⟨_, rfl, by omega, by omega, ?_⟩
      rw [Int.toNat_natCast]
      refine for_range (lo := 0) (n := r) (fun j σ H4 => ∃ (n : Nat) (rs : List (List Int)) (u4 : Option V), σ = [some (.ref sc), some (.ref p), some (.int (0 + (i : Nat))), some (.ref a), u4, u5, u6, u7, u8, u9] ∧ DS T.c_Disk p pl a dl n rs H4 ∧ rs.length ≤ j) ⟨0, [], _, rfl, D3, Nat.le_refl _⟩ ?_ ?_
      · rintro j σ H4 hj ⟨n, rs, u4, rfl, D4, lj⟩
        walk_at "rd"
        refine rd_meth ?_
        walk_at "rd"
        obtain ⟨⟨dz, hz⟩, _⟩ := id D4.disk
        refine ⟨a, dz, _, rfl, hz, rfl, ?_⟩
        walk_at "rd"
        refine rd_disp rfl fun t nt => ?_
        have s5 := same_new (o := .tup [.int 1, .int 2]) nt
        have D5 := D4.same s5
        walk_at "rd"
        refine ⟨a, dl, n, rs, [], .tuple [.int 1, .int 2], .ref t, rfl, D5.disk, dt_tup upd_same (dtAll_cons dt_int (dtAll_cons dt_int dtAll_nil)), (by show 2 ≤ 900000; decide), by omega, fun r5 H6 e5 hb5 f6 hd6 => ?_, fun z => by cases z⟩
        have hw6 : WPost T.c_Disk (upd H4 t (.tup [.int 1, .int 2])) a dl n rs H6 := ⟨dl, n, _, f6.more (by simp), hd6, .inl rfl, by have := D5.nle; simp; omega, by simp⟩
        obtain ⟨n1, n2, _⟩ := D5.ap
        have D6 : DS T.c_Disk p pl a dl n (rs ++ [r5]) H6 := ⟨D5.pool.fk f6 (by simp [D5.lp.symm]) (by simp [D5.ll.symm]), hd6, by have := D5.nle; simp; omega, D5.lp, D5.ll⟩
        walk_at "rd"
        refine ⟨p, pl, 2, rfl, by decide, by decide, D6.pool, fun z H7 z0 z1 hh7 k7 => ?_⟩
        have D7 := D6.draw hh7 k7
        walk_at "rd"
        refine rd_ite (fun h1 => ?_) (fun h1 => ?_)
        · walk_at "rd"
          obtain ⟨⟨dz7, hz7⟩, _⟩ := id D7.disk
          refine rd_meth ?_
          walk_at "rd"
          refine ⟨a, dz7, _, rfl, hz7, rfl, ?_⟩
          walk_at "rd"
          refine ⟨a, dl, n, _, rfl, D7.disk, fun H8 f8 hd8 => ?_⟩
          exact ⟨_, _, _, rfl, ⟨D7.pool.fk f8 (by simp [n1.symm]) (by simp [n2.symm]), hd8, Nat.le_refl _, D7.lp, D7.ll⟩, by simp; omega⟩
        · exact ⟨_, _, _, rfl, D7, by simp; omega⟩
      · rintro σ H4 ⟨n, rs, u4, rfl, D4, lj⟩
        have lr : rs.length ≤ 3 := by omega
        walk_at "rd"
        refine ⟨p, pl, [p, pl, a, dl], rfl, D4.pool, by simp, by simp, D4.there, fun d x H5 hsm hx hh5 k5 => ?_⟩
        have D5 := D4.draw hh5 k5
        clear D4 D3 k5 hh5 lj
        walk_at "rd"
        refine rd_disp rfl fun tw ntw => ?_
        have s6 := same_new (o := .tup [.int 1, .int 2, .int 5, .int 6, .int 7]) ntw
        have D6 := D5.same s6
        have hx6 := hx.s s6
        have htw : (upd H5 tw (.tup [.int 1, .int 2, .int 5, .int 6, .int 7])) tw = some (.tup [.int 1, .int 2, .int 5, .int 6, .int 7]) := upd_same
        generalize upd H5 tw (.tup [.int 1, .int 2, .int 5, .int 6, .int 7]) = H6 at D6 hx6 htw
        clear s6 D5 hx ntw
        refine ⟨tw, rfl, ⟨_, SqT.of htw⟩, for_tup (K := K) (a := tw) (xs := [.int 1, .int 2, .int 5, .int 6, .int 7]) (fun j σ H7 => ∃ (l : Addr) (n : Nat) (rs : List (List Int)) (M : List Addr) (u6 u7 u8 : Option V), σ = [some (.ref sc), some (.ref p), some (.int (0 + (i : Nat))), some (.ref a), u4, some x, u6, u7, u8, u9] ∧ DS T.c_Disk p pl a l n rs H7 ∧ rs.length ≤ 3 + j ∧ Dt T.CP M H7 d x ∧ p ∈ M ∧ pl ∈ M ∧ a ∈ M ∧ l ∈ M ∧ H7 tw = some (.tup [.int 1, .int 2, .int 5, .int 6, .int 7]))
          ⟨dl, n, rs, _, _, _, _, rfl, D6, lr, hx6, by simp, by simp, by simp, by simp, htw⟩ (fun j σ H7 _ hh => ?_) ?_ ?_⟩
        · obtain ⟨l, n, rs, M, u6, u7, u8, _, _, _, _, _, _, _, _, h⟩ := hh
          exact SqT.of h
        · rintro j y σ H7 hj ⟨l, n, rs, M, u6, u7, u8, rfl, D7, lr7, hx7, mp, mpl, ma, ml, htw7⟩
          obtain ⟨k, rfl, k7, k3, k4, k0⟩ : ∃ k : Nat, y = .int (k : Int) ∧ k ≤ 7 ∧ k ≠ 3 ∧ k ≠ 4 ∧ k ≠ 0 := by
            match j, hj with
            | 0, hj => exact ⟨1, (Option.some.inj hj).symm, by decide, by decide, by decide, by decide⟩
            | 1, hj => exact ⟨2, (Option.some.inj hj).symm, by decide, by decide, by decide, by decide⟩
            | 2, hj => exact ⟨5, (Option.some.inj hj).symm, by decide, by decide, by decide, by decide⟩
            | 3, hj => exact ⟨6, (Option.some.inj hj).symm, by decide, by decide, by decide, by decide⟩
            | 4, hj => exact ⟨7, (Option.some.inj hj).symm, by decide, by decide, by decide, by decide⟩
          have j5 : j < 5 := (List.getElem?_eq_some_iff.mp hj).1
          walk_at "rd"
          refine rd_par ?_
          walk_at "rd"
          refine rd_meth ?_
          walk_at "rd"
          obtain ⟨⟨dz, hz⟩, _⟩ := id D7.disk
          refine ⟨a, dz, _, rfl, hz, rfl, ?_⟩
          walk_at "rd"
          refine ⟨a, l, n, rs, rfl, D7.disk, fun b H8 s8 nb hb => ?_⟩
          have D8 := D7.same s8
          walk_at "rd"
          refine rd_meth ?_
          walk_at "rd"
          refine ⟨a, dz, _, rfl, s8 _ _ hz, rfl, ?_⟩
          walk_at "rd"
          refine ⟨a, l, n, rs, rfl, D8.disk, ?_⟩
          walk_at "rd"
          refine ⟨_, _, rfl, ?_⟩
          dsimp only [List.set]
          walk_at "rd"
          refine word_one ⟨k7, D8.disk, D8.nle, by omega, hx7.s s8, by have := hsm.1; omega, ⟨by have := hsm.2.1; omega, fun e he => by have := hsm.2.2 e he; omega⟩, fun z => absurd z k0, fun z => by omega⟩ fun H9 hw9 => ?_
          obtain ⟨l9, n9, rs9, D9, f9, hl9, lr9⟩ := D8.post hw9
          have hx9 := thing_post (hx7.s s8) ma ml f9 hl9
          obtain ⟨_, _, nal⟩ := D8.ap
          obtain ⟨us, hlz⟩ := D7.disk.2.l
          have hb9 := hb.fk f9 (by simp [(ne_of_none hz nb).symm, (ne_of_none hlz nb).symm])
          walk_at "rd"
          refine ⟨k, b, n, rs, _, d, x, rfl, k7, k3, k4, hb9, D8.nle, by omega, hx9, by have := hsm.1; omega, by have := hsm.2.1; omega, fun e he => by have := hsm.2.2 e he; omega, fun HA sA => ?_⟩
          walk_at "rd"
          refine rd_ne rfl ?_
          walk_at "rd"
          refine rd_no (by simp) ?_
          walk_at "rd"
          exact ⟨l9, n9, rs9, _, _, _, _, rfl, D9.same sA, by omega, hx9.s sA, List.mem_cons_of_mem _ mp, List.mem_cons_of_mem _ mpl, List.mem_cons_of_mem _ ma, List.mem_cons_self, sA _ _ (f9.2 _ _ (s8 _ _ htw7))⟩
        · rintro σ H7 ⟨l, n, rs, M, u6, u7, u8, rfl, D7, lr7, hx7, mp, mpl, ma, ml, _⟩
          walk_at "rd"
          refine ⟨fun σ8 H8 => σ8 = [some (.ref sc), some (.ref p), some (.int (0 + (i : Nat))), some (.ref a), u4, some x, u6, u7, u8, u9] ∧ ∃ l n rs, DS T.c_Disk p pl a l n rs H8 ∧ rs.length ≤ 9, ?_, ?_⟩
          · walk_at "rd"
            refine ⟨M, d, x, rfl, hx7, by have := hsm.1; omega, fun H8 s8 => ?_⟩
            have D8 := D7.same s8
            have hx8 := hx7.s s8
            clear D7 hx7
            walk_at "rd"
            cases er : isRowD d with
            | true =>
              refine rd_no rfl ?_
              exact ⟨rfl, l, n, rs, D8, by simp at lr7; omega⟩
            | false =>
              refine rd_yes rfl ?_
              walk_at "rd"
              refine word_one (i := 0) ⟨by decide, D8.disk, D8.nle, by simp at lr7; omega, hx8, by have := hsm.1; omega, ⟨by have := hsm.2.1; omega, fun e he => by have := hsm.2.2 e he; omega⟩, fun _ => er, fun z => by omega⟩ fun H9 hw9 => ?_
              obtain ⟨l9, n9, rs9, D9, f9, hl9, lr9⟩ := D8.post hw9
              rw [show okW 0 n rs d = false from er]
              walk_at "rd"
              refine rd_ne rfl ?_
              walk_at "rd"
              refine rd_no rfl ?_
              exact ⟨rfl, l9, n9, rs9, D9, by simp at lr7; omega⟩
          · rintro σ8 H8 ⟨rfl, l, n, rs, D8, lr8⟩
            clear D7 hx7 hx6 hsm lr7 mp mpl ma ml
            walk_at "rd"
            refine ⟨"a", 21, rfl, rfl, by decide, by decide, by decide, by decide, ?_⟩
            have D0 : DtAll T.CP [p, pl, a, l] H8 [.str "", .str (repS "a" 21)] [.str "", .str (repS "a" 21)] := dtAll_cons dt_str (dtAll_cons dt_str dtAll_nil)
            have hM := D8.there
            have S0 := Same.refl H8
            walk_at "rd"
            refine rd_disp rfl fun a1 n1 => ?_
            have s1 := same_new (o := .lst []) n1
            have D1 := D0.add s1 (dt_lst (new_out (there_same hM S0) n1) upd_same dtAll_nil)
            have S1 := S0.trans s1
            clear D0 S0 s1
            generalize upd H8 a1 (.lst []) = H1' at D1 S1
            walk_at "rd"
            intro a2 n2
            have s2 := same_new (o := .dK []) n2
            have D2 := D1.add s2 (dt_dic (kv := []) (new_out (there_same hM S1) n2) upd_same)
            have S2 := S1.trans s2
            clear D1 S1 s2
            generalize upd H1' a2 (.dK []) = H2' at D2 S2
            walk_at "rd"
            refine rd_disp rfl fun a3 n3 => ?_
            have s3 := same_new (o := .lst []) n3
            have t3 : Dt T.CP [p, pl, a, l] (upd H2' a3 (.lst [])) (.list []) (.ref a3) := dt_lst (new_out (there_same hM S2) n3) upd_same dtAll_nil
            have D3 := D2.s s3
            have S3 := S2.trans s3
            clear D2 S2 s3
            generalize upd H2' a3 (.lst []) = H3' at D3 S3 t3
            walk_at "rd"
            refine rd_disp rfl fun a4 n4 => ?_
            have s4 := same_new (o := .tup [.ref a3]) n4
            have D4 := D3.add s4 (dt_tup upd_same (dtAll_cons (t3.s s4) dtAll_nil))
            have S4 := S3.trans s4
            clear D3 S3 s4 t3
            generalize upd H3' a4 (.tup [.ref a3]) = H4' at D4 S4
            walk_at "rd"
            refine rd_disp rfl fun a5 n5 => ?_
            have s5 := same_new (o := .tup [.str ""]) n5
            have D5 := D4.add s5 (dt_tup upd_same (dtAll_cons (dt_str (s := "")) dtAll_nil))
            have S5 := S4.trans s5
            clear D4 S4 s5
            generalize upd H4' a5 (.tup [.str ""]) = H5' at D5 S5
            walk_at "rd"
            refine ⟨[p, pl, a, l], .int 0, 21, .int 0, rfl, by decide, dt_int, fun v6 H6' s6 hv6 => ?_⟩
            have D6 := D5.add s6 hv6
            have S6 := S5.trans s6
            clear D5 S5 s6 hv6
            walk_at "rd"
            refine rd_make ?_
            walk_at "rd"
            intro y dy ny ndy ney
            have Z1 : Same H6' (upd (upd H6' dy (.own y)) y (.ins T.c_Incoming dy [])) := fun z o e => by
              rw [upd_ne (ne_of_none e ny), upd_ne (ne_of_none e ndy)]
              exact e
            refine ⟨y, dy, rfl, upd_same, fun dl7 H7' f7 nl7 hi7 => ⟨rfl, ?_⟩⟩
            have s7 : Same H6' H7' := fun z o e => f7 z o (by simpa using ne_of_none e ny) (Z1 _ _ e)
            obtain ⟨⟨dd7, hy7⟩, _⟩ := hi7
            have D7 := D6.add s7 (dt_own (kv := []) (.inr (.inr rfl)) (new_out (there_same hM S6) ny) hy7)
            have S7 := S6.trans s7
            clear D6 S6 s7 Z1 f7 nl7 hy7 ney ndy ny
            walk_at "rd"
            refine rd_make ?_
            walk_at "rd"
            intro x8 dx8 nx8 ndx8 nex8
            have Z2 : Same H7' (upd (upd H7' dx8 (.own x8)) x8 (.ins T.c_Disk dx8 [])) := fun z o e => by
              rw [upd_ne (ne_of_none e nx8), upd_ne (ne_of_none e ndx8)]
              exact e
            refine ⟨x8, dx8, rfl, upd_same, fun dl8 H8' f8 nl8 nla8 hd8 => ⟨rfl, ?_⟩⟩
            have s8 : Same H7' H8' := fun z o e => f8.at (by simpa using ne_of_none e nx8) (Z2 _ _ e)
            obtain ⟨⟨dd8, hx8⟩, _⟩ := hd8
            have t8 : Dt T.CP [p, pl, a, l] H8' (.dict []) (.ref x8) := dt_own (.inl rfl) (new_out (there_same hM S7) nx8) hx8
            have D9 := D7.s s8
            have S9 := S7.trans s8
            clear D7 S7 s8 Z2 f8 nl8 nla8 hx8 nex8 ndx8 nx8
            walk_at "rd"
            refine rd_disp rfl fun a9 n9 => ?_
            have s9 := same_new (o := .tup [.ref x8]) n9
            have DA := D9.add s9 (dt_tup upd_same (dtAll_cons (t8.s s9) dtAll_nil))
            have SA := S9.trans s9
            clear D9 S9 s9 t8
            generalize upd H8' a9 (.tup [.ref x8]) = H9' at DA SA
            simp only [List.cons_append, List.nil_append] at DA
            walk_at "rd"
            refine rd_disp rfl fun b nb => ?_
            have sB := same_new (o := .lst [.str "", .str (repS "a" 21), .ref a1, .ref a2, .ref a4, .ref a5, v6, .ref y, .ref a9]) nb
            have hb : (upd H9' b (.lst [.str "", .str (repS "a" 21), .ref a1, .ref a2, .ref a4, .ref a5, v6, .ref y, .ref a9])) b = some (.lst [.str "", .str (repS "a" 21), .ref a1, .ref a2, .ref a4, .ref a5, v6, .ref y, .ref a9]) := upd_same
            have DB := DA.s sB
            have nbM := new_out (there_same hM SA) nb
            have SB := SA.trans sB
            clear DA SA sB
            generalize upd H9' b (.lst [.str "", .str (repS "a" 21), .ref a1, .ref a2, .ref a4, .ref a5, v6, .ref y, .ref a9]) = HB at DB SB hb
            have DSB := D8.same SB
            walk_at "rd"
            refine ⟨p, pl, 9, rfl, by decide, by decide, DSB.pool, fun r9 HC r90 r91 hhC kC => ?_⟩
            have DSC := DSB.draw hhC kC
            refine rd_menuS (CP := T.CP) (M := [p, pl, a, l]) (kC.at (fun z => nbM (by simp at z ⊢; rcases z with z | z <;> simp [z])) hb) (DB.k (kC.more (by simp))) r90 (by simpa using r91) fun d x hd hx => ?_
            have hn : NoPc d := by
              simp only [List.mem_cons, List.not_mem_nil, or_false] at hd
              rcases hd with rfl | rfl | rfl | rfl | rfl | rfl | rfl | rfl | rfl
              · exact ⟨pc0, by decide, smD0 (Nat.zero_le _) rfl⟩
              · exact ⟨pc21, by show (repS "a" 21).length + 1 ≤ 900000; rw [len21]; decide, smD0 (Nat.zero_le _) rfl⟩
              · exact ⟨rfl, by decide, smD0 (Nat.zero_le _) rfl⟩
              · exact ⟨rfl, by decide, smD0 (Nat.zero_le _) rfl⟩
              · exact ⟨rfl, by decide, smD1 (by show 1 ≤ 10; decide) rfl (Nat.zero_le _)⟩
              · exact ⟨rfl, by decide, smD1 (by show 1 ≤ 10; decide) rfl (Nat.zero_le _)⟩
              · exact ⟨nestT_no, nestT_szd, smD1 (by show 1 ≤ 10; decide) rfl (by show 1 ≤ 10; decide)⟩
              · exact ⟨rfl, by decide, smD0 (Nat.zero_le _) rfl⟩
              · exact ⟨rfl, by decide, smD1 (by show 1 ≤ 10; decide) rfl (Nat.zero_le _)⟩
            clear hd DB hb nbM DSB kC hhC SB
            walk_at "rd"
            refine rd_disp rfl fun tw ntw => ?_
            have sT := same_new (o := .tup [.int 3, .int 4]) ntw
            have DST := DSC.same sT
            have hxT := hx.s sT
            have htw : (upd HC tw (.tup [.int 3, .int 4])) tw = some (.tup [.int 3, .int 4]) := upd_same
            generalize upd HC tw (.tup [.int 3, .int 4]) = HT at DST hxT htw
            refine ⟨tw, rfl, ⟨_, SqT.of htw⟩, fun D hD => lc_tup (K := K) (a := tw) (xs := [.int 3, .int 4]) (fun i H1 => Same HT H1 ∧ H1 D = some (.lst (List.replicate i (.str "parcel")))) ⟨same_new hD, upd_same⟩ (fun i H1 _ hh => SqT.of (hh.1 _ _ htw)) ?_ ?_⟩
            · rintro j y1 HU hj ⟨hs, hacc⟩
              obtain ⟨k, rfl, k34⟩ : ∃ k : Nat, y1 = .int (k : Int) ∧ (k = 3 ∨ k = 4) := by
                match j, hj with
                | 0, hj => exact ⟨3, (Option.some.inj hj).symm, .inl rfl⟩
                | 1, hj => exact ⟨4, (Option.some.inj hj).symm, .inr rfl⟩
              have j2 : j < 2 := (List.getElem?_eq_some_iff.mp hj).1
              refine ⟨rfl, ?_⟩
              refine rd_tyes ?_
              refine rd_yes rfl ?_
              walk_at "rd"
              have DSU := DST.same hs
              have hok : okW k n rs d = false := by
                rcases k34 with rfl | rfl
                · exact hn.1
                · exact hn.1
              refine ⟨k, a, l, n, rs, _, d, x, rfl, ⟨by omega, DSU.disk, DSU.nle, by omega, hxT.s hs, by have := hn.2.2.1; omega, ⟨by have := hn.2.2.2.1; omega, fun e he => by have := hn.2.2.2.2 e he; omega⟩, fun z => by omega, fun _ => ⟨hn.1, hn.2.1⟩⟩, (fun z => by rw [hok] at z; cases z), fun _ HV sV => ?_⟩
              have ej : nmJ (jW k) = "parcel" := by
                rcases k34 with rfl | rfl <;> rfl
              refine ⟨_, sV _ _ hacc, small' (by rw [List.length_replicate]; omega), fun z o ez => (upd_ne (ne_of_none ez hD)).trans (sV _ _ (hs z o ez)), ?_⟩
              rw [upd_same, ej, List.replicate_succ']
            · rintro HU ⟨hs, hacc⟩
              walk_at "rd"
              refine rd_disp rfl fun b2 nb2 => ?_
              have sW := same_new (o := .lst [.str "parcel", .str "parcel"]) nb2
              refine rd_eqD (CP := T.CP) (CP2 := T.CP) (M1 := []) (M2 := []) (d := .list [.str "parcel", .str "parcel"]) (e := .list [.str "parcel", .str "parcel"]) (dt_lst (by simp) (sW _ _ hacc) (dtAll_cons dt_str (dtAll_cons dt_str dtAll_nil))) (dt_lst (by simp) upd_same (dtAll_cons dt_str (dtAll_cons dt_str dtAll_nil))) sh_pp sh_pp ?_
              rw [ne_pp]
              walk_at "rd"
              refine rd_no rfl ?_
              walk_at "rd"
              exact ⟨((DST.same hs).same sW).pool, _, _, _, _, _, _, _, _, rfl⟩
    · rintro σ H1 ⟨hh1, u2, u3, u4, u5, u6, u7, u8, u9, rfl⟩
      walk_at "rd"
      exact q _
theorem ok_law (T : Tx K mg) (B : Bk K mg T) : FnOk P w K mg base CX0 55 B.law.f B.law.fd ["script"] (spLaw K) := by
  have G_law_first := ok_law_first (P := P) (w := w) (base := base) T B
  have G_law_second := ok_law_second (P := P) (w := w) (base := base) T B
  refine B.law.F.ok sc_law (fun vs H Q E h => ?_) (fun cdv A outer s H vs Q E hr h => ?_)
  · obtain ⟨a, ns, rfl, _⟩ := h
    rfl
  · obtain ⟨a, ns, rfl, ha, q⟩ := h
    refine ⟨_, (pss_one (ps_ret (pe_and (pe_call G_law_first (hr.mono (by omega)) rfl B.law_first.m B.law_first.F.kp B.law_first.b .nil pass0 (pa_cons (pv 0) pa_nil)) (pe_one (pe_call G_law_second (hr.mono (by omega)) rfl B.law_second.m B.law_second.F.kp B.law_second.b .nil pass0 (pa_cons (pv 0) pa_nil)))))), ?_⟩
    walk_at "rd"
    refine ⟨a, ns, rfl, ha, fun H1 s1 => ?_⟩
    walk_at "rd"
    refine rd_yes rfl ?_
    walk_at "rd"
    exact ⟨a, ns, rfl, s1.seq ha, q⟩
end
end Mw

/-! Z1 -/
namespace Mw
open PySem L2
theorem kit_bt {K : PySem.W.Frag} {C : Addr} {T : String} {b : Bool} (h : PySem.W.mroIn K C (.type T) = some b) (hm : PySem.W.kitMeta T = true) (hne : (Value.ref C == .type T) = false) : PySem.W.kitOne K (.ref C) (.type T) = some b := by
  unfold PySem.W.kitOne PySem.W.kitCls
  rw [if_neg (by rw [hne]; simp)]
  simp only [hm, if_true]
  exact h
theorem kit_cls {K : PySem.W.Frag} {t : Value} {C : Addr} {b : Bool} (hne : (t == .ref C) = false) (h2 : PySem.W.isClsIn K C = true) (h3 : PySem.W.typeIn K (.ref C) = some (.type "type")) (h : PySem.W.subIn K t (.ref C) = some b) : PySem.W.kitOne K t (.ref C) = some b := by
  have e2 : ((PySem.W.clsIn K C).isSome && PySem.W.typeIn K (.ref C) == some (.type "type")) = true := by
    have h2' : (PySem.W.clsIn K C).isSome = true := h2
    rw [h2', h3] <;> rfl
  unfold PySem.W.kitOne PySem.W.kitCls
  rw [if_neg (by rw [hne]; simp)]
  simp only [e2]
  exact h
theorem exm_cls {K : PySem.W.Frag} {S D : Addr} {b : Bool} (h1 : PySem.W.subIn K (.ref D) (.type "BaseException") = some true) (h2 : PySem.W.isClsIn K D = true) (h3 : PySem.W.typeIn K (.ref D) = some (.type "type")) (h4 : PySem.W.subIn K (.ref S) (.ref D) = some b) : PySem.W.exmOne K (.ref S) (.ref D) = some b := by
  have e2 : ((PySem.W.clsIn K D).isSome && PySem.W.typeIn K (.ref D) == some (.type "type")) = true := by
    have h2' : (PySem.W.clsIn K D).isSome = true := h2
    rw [h2', h3] <;> rfl
  unfold PySem.W.exmOne PySem.W.kitCls
  rw [if_pos (by rw [h1] <;> rfl)]
  simp only [e2]
  exact h4
theorem kit_subT {K : PySem.W.Frag} {C : Addr} {T : String} (hm : PySem.W.kitMeta T = true) (h : PySem.W.subIn K (.ref C) (.type T) = some true) : PySem.W.kitOne K (.ref C) (.type T) = some true := by
  unfold PySem.W.kitOne PySem.W.kitCls
  split
  · rfl
  · simp only [hm, if_true]
    exact h
theorem kit_subR {K : PySem.W.Frag} {A C : Addr} (h2 : PySem.W.isClsIn K C = true) (h3 : PySem.W.typeIn K (.ref C) = some (.type "type")) (h : PySem.W.subIn K (.ref A) (.ref C) = some true) : PySem.W.kitOne K (.ref A) (.ref C) = some true := by
  have e2 : ((PySem.W.clsIn K C).isSome && PySem.W.typeIn K (.ref C) == some (.type "type")) = true := by
    have h2' : (PySem.W.clsIn K C).isSome = true := h2
    rw [h2', h3] <;> rfl
  unfold PySem.W.kitOne PySem.W.kitCls
  split
  · rfl
  · simp only [e2]
    exact h
theorem kit_subN {K : PySem.W.Frag} {A C : Addr} (h2 : PySem.W.isClsIn K C = true) (h3 : PySem.W.typeIn K (.ref C) = some (.type "type")) (h : PySem.W.subIn K (.ref A) (.ref C) = some false) (hs : PySem.W.subIn K (.ref A) (.ref A) = some true) : PySem.W.kitOne K (.ref A) (.ref C) = some false := by
  have ne : A ≠ C := fun z => by
    rw [← z, hs] at h
    cases h
  have e2 : ((PySem.W.clsIn K C).isSome && PySem.W.typeIn K (.ref C) == some (.type "type")) = true := by
    have h2' : (PySem.W.clsIn K C).isSome = true := h2
    rw [h2', h3] <;> rfl
  unfold PySem.W.kitOne PySem.W.kitCls
  split
  · rename_i z
    exact absurd (Value.ref.inj (beq_iff_eq.mp z)) ne
  · simp only [e2]
    exact h
theorem tup_not {K : PySem.W.Frag} {C : Addr} : PySem.W.subIn K (.type "tuple") (.ref C) = some false := rfl
theorem fin_of {l : PySem.W.OpenLaw} {w : World} {K : PySem.W.Frag} {mg : Str → Option Value} {fa : Addr} (T : Tx K mg) (B : Bk K mg T) (hfa : mg "law" = some (.ref fa)) (hb : ∀ (s : Shared) (v : Value), BindsTo s B.law.fd ⟨[v], []⟩ [("script", v)]) :
    ∃ fd : FuncData, (∀ (s : Shared) (v : Value), BindsTo s fd ⟨[v], []⟩ [("script", v)]) ∧ ∀ base : Heap, K.In base → base.Ns mainGlobals mg → FnOk l.prog w K mg base CX0 55 fa fd ["script"] (spLaw K) := by
  have e : fa = B.law.f := by
    have z := hfa.symm.trans B.law.m
    injection z with z
    injection z
  subst e
  exact ⟨B.law.fd, hb, fun base _ _ => ok_law T B⟩
theorem all_mk {l : PySem.W.OpenLaw} {w : World} {K : PySem.W.Frag} {h : Heap} {mg : Str → Option Value} {fa c_Disk c_Outgoing c_Incoming c_StreamError c_NoNumber c_NoCut c_NoBlocks c_NoParcel c_NoRow c_BadRow f0 f1 f2 f3 f4 f5 f6 f7 f8 f9 f10 f11 f12 f13 f14 f15 f16 f17 f18 f19 f20 f21 f22 f23 f24 f25 f26 f27 f28 f29 f30 f31 f32 f33 f34 f35 f36 f37 f38 f39 f40 f41 f42 f43 f44 f45 f46 f47 f48 f49 f50 f51 f52 f53 f54 f55 f56 f57 f58 f59 f60 f61 f62 f63 f64 f65 f66 f67 f68 f69 f70 f71 f72 f73 f74 f75 f76 : Addr} (X : K.In h) (G : h.Ns mainGlobals mg) (hfa : mg "law" = some (.ref fa)) {tk1 tk2 tk3 tk4 tk5 tk6 tk7 tk8 tk9 tk10 tk11 tk12 tk13 tk14 tk15 tk16 tk18 tk19 tk17 : Tok}
    {nm0 q0 : Str} {N0 ss0 : Addr} {bs0 : List Value} {sn0 : List Str} {sub0 : List Value} {ab0 : Bool} {col0 : Option Bool} {dd0 : Option Addr} {ma0 mb0 mc0 md0 me0 : Option Value} {nm1 q1 : Str} {N1 ss1 : Addr} {bs1 : List Value} {sn1 : List Str} {sub1 : List Value} {ab1 : Bool} {col1 : Option Bool} {dd1 : Option Addr} {ma1 mb1 mc1 md1 me1 : Option Value} {nm2 q2 : Str} {N2 ss2 : Addr} {bs2 : List Value} {sn2 : List Str} {sub2 : List Value} {ab2 : Bool} {col2 : Option Bool} {dd2 : Option Addr} {ma2 mb2 mc2 md2 me2 : Option Value} {nm3 q3 : Str} {N3 ss3 : Addr} {bs3 : List Value} {sn3 : List Str} {sub3 : List Value} {ab3 : Bool} {col3 : Option Bool} {dd3 : Option Addr} {ma3 mb3 mc3 md3 me3 : Option Value} {nm4 q4 : Str} {N4 ss4 : Addr} {bs4 : List Value} {sn4 : List Str} {sub4 : List Value} {ab4 : Bool} {col4 : Option Bool} {dd4 : Option Addr} {ma4 mb4 mc4 md4 me4 : Option Value} {nm5 q5 : Str} {N5 ss5 : Addr} {bs5 : List Value} {sn5 : List Str} {sub5 : List Value} {ab5 : Bool} {col5 : Option Bool} {dd5 : Option Addr} {ma5 mb5 mc5 md5 me5 : Option Value}
    {od0 an0 : Option Addr} {sl0 : Array (Option Value)} {oc0 kV0 dc0 pm0 cd0 ct0 : Value}
    {od1 an1 : Option Addr} {sl1 : Array (Option Value)} {oc1 kV1 dc1 pm1 cd1 ct1 : Value}
    {od2 an2 : Option Addr} {sl2 : Array (Option Value)} {oc2 kV2 dc2 pm2 cd2 ct2 : Value}
    {od3 an3 : Option Addr} {sl3 : Array (Option Value)} {oc3 kV3 dc3 pm3 cd3 ct3 : Value}
    {od4 an4 : Option Addr} {sl4 : Array (Option Value)} {oc4 kV4 dc4 pm4 cd4 ct4 : Value}
    {od5 an5 : Option Addr} {sl5 : Array (Option Value)} {oc5 kV5 dc5 pm5 cd5 ct5 : Value}
    {od6 an6 : Option Addr} {sl6 : Array (Option Value)} {oc6 kV6 dc6 pm6 cd6 ct6 : Value}
    {od7 an7 : Option Addr} {sl7 : Array (Option Value)} {oc7 kV7 dc7 pm7 cd7 ct7 : Value}
    {od8 an8 : Option Addr} {sl8 : Array (Option Value)} {oc8 kV8 dc8 pm8 cd8 ct8 : Value}
    {od9 an9 : Option Addr} {sl9 : Array (Option Value)} {oc9 kV9 dc9 pm9 cd9 ct9 : Value}
    {od10 an10 : Option Addr} {sl10 : Array (Option Value)} {oc10 kV10 dc10 pm10 cd10 ct10 : Value}
    {od11 an11 : Option Addr} {sl11 : Array (Option Value)} {oc11 kV11 dc11 pm11 cd11 ct11 : Value}
    {od12 an12 : Option Addr} {sl12 : Array (Option Value)} {oc12 kV12 dc12 pm12 cd12 ct12 : Value}
    {od13 an13 : Option Addr} {sl13 : Array (Option Value)} {oc13 kV13 dc13 pm13 cd13 ct13 : Value}
    {od14 an14 : Option Addr} {sl14 : Array (Option Value)} {oc14 kV14 dc14 pm14 cd14 ct14 : Value}
    {od15 an15 : Option Addr} {sl15 : Array (Option Value)} {oc15 kV15 dc15 pm15 cd15 ct15 : Value}
    {od16 an16 : Option Addr} {sl16 : Array (Option Value)} {oc16 kV16 dc16 pm16 cd16 ct16 : Value}
    {od17 an17 : Option Addr} {sl17 : Array (Option Value)} {oc17 kV17 dc17 pm17 cd17 ct17 : Value}
    {od18 an18 : Option Addr} {sl18 : Array (Option Value)} {oc18 kV18 dc18 pm18 cd18 ct18 : Value}
    {od19 an19 : Option Addr} {sl19 : Array (Option Value)} {oc19 kV19 dc19 pm19 cd19 ct19 : Value}
    {od20 an20 : Option Addr} {sl20 : Array (Option Value)} {oc20 kV20 dc20 pm20 cd20 ct20 : Value}
    {od21 an21 : Option Addr} {sl21 : Array (Option Value)} {oc21 kV21 dc21 pm21 cd21 ct21 : Value}
    {od22 an22 : Option Addr} {sl22 : Array (Option Value)} {oc22 kV22 dc22 pm22 cd22 ct22 : Value}
    {od23 an23 : Option Addr} {sl23 : Array (Option Value)} {oc23 kV23 dc23 pm23 cd23 ct23 : Value}
    {od24 an24 : Option Addr} {sl24 : Array (Option Value)} {oc24 kV24 dc24 pm24 cd24 ct24 : Value}
    {od25 an25 : Option Addr} {sl25 : Array (Option Value)} {oc25 kV25 dc25 pm25 cd25 ct25 : Value}
    {od26 an26 : Option Addr} {sl26 : Array (Option Value)} {oc26 kV26 dc26 pm26 cd26 ct26 : Value}
    {od27 an27 : Option Addr} {sl27 : Array (Option Value)} {oc27 kV27 dc27 pm27 cd27 ct27 : Value}
    {od28 an28 : Option Addr} {sl28 : Array (Option Value)} {oc28 kV28 dc28 pm28 cd28 ct28 : Value}
    {od29 an29 : Option Addr} {sl29 : Array (Option Value)} {oc29 kV29 dc29 pm29 cd29 ct29 : Value}
    {od30 an30 : Option Addr} {sl30 : Array (Option Value)} {oc30 kV30 dc30 pm30 cd30 ct30 : Value}
    {od31 an31 : Option Addr} {sl31 : Array (Option Value)} {oc31 kV31 dc31 pm31 cd31 ct31 : Value}
    {od32 an32 : Option Addr} {sl32 : Array (Option Value)} {oc32 kV32 dc32 pm32 cd32 ct32 : Value}
    {od33 an33 : Option Addr} {sl33 : Array (Option Value)} {oc33 kV33 dc33 pm33 cd33 ct33 : Value}
    {od34 an34 : Option Addr} {sl34 : Array (Option Value)} {oc34 kV34 dc34 pm34 cd34 ct34 : Value}
    {od35 an35 : Option Addr} {sl35 : Array (Option Value)} {oc35 kV35 dc35 pm35 cd35 ct35 : Value}
    {od36 an36 : Option Addr} {sl36 : Array (Option Value)} {oc36 kV36 dc36 pm36 cd36 ct36 : Value}
    {od37 an37 : Option Addr} {sl37 : Array (Option Value)} {oc37 kV37 dc37 pm37 cd37 ct37 : Value}
    {od38 an38 : Option Addr} {sl38 : Array (Option Value)} {oc38 kV38 dc38 pm38 cd38 ct38 : Value}
    {od39 an39 : Option Addr} {sl39 : Array (Option Value)} {oc39 kV39 dc39 pm39 cd39 ct39 : Value}
    {od40 an40 : Option Addr} {sl40 : Array (Option Value)} {oc40 kV40 dc40 pm40 cd40 ct40 : Value}
    {od41 an41 : Option Addr} {sl41 : Array (Option Value)} {oc41 kV41 dc41 pm41 cd41 ct41 : Value}
    {od42 an42 : Option Addr} {sl42 : Array (Option Value)} {oc42 kV42 dc42 pm42 cd42 ct42 : Value}
    {od43 an43 : Option Addr} {sl43 : Array (Option Value)} {oc43 kV43 dc43 pm43 cd43 ct43 : Value}
    {od44 an44 : Option Addr} {sl44 : Array (Option Value)} {oc44 kV44 dc44 pm44 cd44 ct44 : Value}
    {od45 an45 : Option Addr} {sl45 : Array (Option Value)} {oc45 kV45 dc45 pm45 cd45 ct45 : Value}
    {od46 an46 : Option Addr} {sl46 : Array (Option Value)} {oc46 kV46 dc46 pm46 cd46 ct46 : Value}
    {od47 an47 : Option Addr} {sl47 : Array (Option Value)} {oc47 kV47 dc47 pm47 cd47 ct47 : Value}
    {od48 an48 : Option Addr} {sl48 : Array (Option Value)} {oc48 kV48 dc48 pm48 cd48 ct48 : Value}
    {od49 an49 : Option Addr} {sl49 : Array (Option Value)} {oc49 kV49 dc49 pm49 cd49 ct49 : Value}
    {od50 an50 : Option Addr} {sl50 : Array (Option Value)} {oc50 kV50 dc50 pm50 cd50 ct50 : Value}
    {od51 an51 : Option Addr} {sl51 : Array (Option Value)} {oc51 kV51 dc51 pm51 cd51 ct51 : Value}
    {od52 an52 : Option Addr} {sl52 : Array (Option Value)} {oc52 kV52 dc52 pm52 cd52 ct52 : Value}
    {od53 an53 : Option Addr} {sl53 : Array (Option Value)} {oc53 kV53 dc53 pm53 cd53 ct53 : Value}
    {od54 an54 : Option Addr} {sl54 : Array (Option Value)} {oc54 kV54 dc54 pm54 cd54 ct54 : Value}
    {od55 an55 : Option Addr} {sl55 : Array (Option Value)} {oc55 kV55 dc55 pm55 cd55 ct55 : Value}
    {od56 an56 : Option Addr} {sl56 : Array (Option Value)} {oc56 kV56 dc56 pm56 cd56 ct56 : Value}
    {od57 an57 : Option Addr} {sl57 : Array (Option Value)} {oc57 kV57 dc57 pm57 cd57 ct57 : Value}
    {od58 an58 : Option Addr} {sl58 : Array (Option Value)} {oc58 kV58 dc58 pm58 cd58 ct58 : Value}
    {od59 an59 : Option Addr} {sl59 : Array (Option Value)} {oc59 kV59 dc59 pm59 cd59 ct59 : Value}
    {od60 an60 : Option Addr} {sl60 : Array (Option Value)} {oc60 kV60 dc60 pm60 cd60 ct60 : Value}
    {od61 an61 : Option Addr} {sl61 : Array (Option Value)} {oc61 kV61 dc61 pm61 cd61 ct61 : Value}
    {od62 an62 : Option Addr} {sl62 : Array (Option Value)} {oc62 kV62 dc62 pm62 cd62 ct62 : Value}
    {od63 an63 : Option Addr} {sl63 : Array (Option Value)} {oc63 kV63 dc63 pm63 cd63 ct63 : Value}
    {od64 an64 : Option Addr} {sl64 : Array (Option Value)} {oc64 kV64 dc64 pm64 cd64 ct64 : Value}
    {od65 an65 : Option Addr} {sl65 : Array (Option Value)} {oc65 kV65 dc65 pm65 cd65 ct65 : Value}
    {od66 an66 : Option Addr} {sl66 : Array (Option Value)} {oc66 kV66 dc66 pm66 cd66 ct66 : Value}
    {od67 an67 : Option Addr} {sl67 : Array (Option Value)} {oc67 kV67 dc67 pm67 cd67 ct67 : Value}
    {od68 an68 : Option Addr} {sl68 : Array (Option Value)} {oc68 kV68 dc68 pm68 cd68 ct68 : Value}
    {od69 an69 : Option Addr} {sl69 : Array (Option Value)} {oc69 kV69 dc69 pm69 cd69 ct69 : Value}
    {od70 an70 : Option Addr} {sl70 : Array (Option Value)} {oc70 kV70 dc70 pm70 cd70 ct70 : Value}
    {od71 an71 : Option Addr} {sl71 : Array (Option Value)} {oc71 kV71 dc71 pm71 cd71 ct71 : Value}
    {od72 an72 : Option Addr} {sl72 : Array (Option Value)} {oc72 kV72 dc72 pm72 cd72 ct72 : Value}
    {od73 an73 : Option Addr} {sl73 : Array (Option Value)} {oc73 kV73 dc73 pm73 cd73 ct73 : Value}
    {od74 an74 : Option Addr} {sl74 : Array (Option Value)} {oc74 kV74 dc74 pm74 cd74 ct74 : Value}
    {od75 an75 : Option Addr} {sl75 : Array (Option Value)} {oc75 kV75 dc75 pm75 cd75 ct75 : Value}
    {od76 an76 : Option Addr} {sl76 : Array (Option Value)} {oc76 kV76 dc76 pm76 cd76 ct76 : Value}
    (g_c_Disk : PySem.W.nsIn K mainGlobals "Disk" = some (some (.ref c_Disk)))
    (g_c_Outgoing : PySem.W.nsIn K mainGlobals "Outgoing" = some (some (.ref c_Outgoing)))
    (g_c_Incoming : PySem.W.nsIn K mainGlobals "Incoming" = some (some (.ref c_Incoming)))
    (g_c_StreamError : PySem.W.nsIn K mainGlobals "StreamError" = some (some (.ref c_StreamError)))
    (g_c_NoNumber : PySem.W.nsIn K mainGlobals "NoNumber" = some (some (.ref c_NoNumber)))
    (g_c_NoCut : PySem.W.nsIn K mainGlobals "NoCut" = some (some (.ref c_NoCut)))
    (g_c_NoBlocks : PySem.W.nsIn K mainGlobals "NoBlocks" = some (some (.ref c_NoBlocks)))
    (g_c_NoParcel : PySem.W.nsIn K mainGlobals "NoParcel" = some (some (.ref c_NoParcel)))
    (g_c_NoRow : PySem.W.nsIn K mainGlobals "NoRow" = some (some (.ref c_NoRow)))
    (g_c_BadRow : PySem.W.nsIn K mainGlobals "BadRow" = some (some (.ref c_BadRow)))
    (g_NONE : PySem.W.nsIn K mainGlobals "NONE" = some (some (.int 0 tk1)))
    (g_NO : PySem.W.nsIn K mainGlobals "NO" = some (some (.int 1 tk2)))
    (g_YES : PySem.W.nsIn K mainGlobals "YES" = some (some (.int 2 tk3)))
    (g_FROM_ZERO : PySem.W.nsIn K mainGlobals "FROM_ZERO" = some (some (.int 3 tk4)))
    (g_BELOW_ZERO : PySem.W.nsIn K mainGlobals "BELOW_ZERO" = some (some (.int 4 tk5)))
    (g_STRING : PySem.W.nsIn K mainGlobals "STRING" = some (some (.int 5 tk6)))
    (g_TUPLE : PySem.W.nsIn K mainGlobals "TUPLE" = some (some (.int 6 tk7)))
    (g_MOST_SIGNS : PySem.W.nsIn K mainGlobals "MOST_SIGNS" = some (some (.int 20 tk8)))
    (g_MOST_DEEP : PySem.W.nsIn K mainGlobals "MOST_DEEP" = some (some (.int 20 tk9)))
    (g_BYTE_LIMIT : PySem.W.nsIn K mainGlobals "BYTE_LIMIT" = some (some (.int 256 tk10)))
    (g_FIGURE_LIMIT : PySem.W.nsIn K mainGlobals "FIGURE_LIMIT" = some (some (.int 128 tk11)))
    (g_MARK_LIMIT : PySem.W.nsIn K mainGlobals "MARK_LIMIT" = some (some (.int 2305843009213693951 tk12)))
    (g_SEAL_LENGTH : PySem.W.nsIn K mainGlobals "SEAL_LENGTH" = some (some (.int 4 tk13)))
    (g_LEAST_SIGN : PySem.W.nsIn K mainGlobals "LEAST_SIGN" = some (some (.int 32 tk14)))
    (g_GREATEST_SIGN : PySem.W.nsIn K mainGlobals "GREATEST_SIGN" = some (some (.int 126 tk15)))
    (g_NO_SIGN : PySem.W.nsIn K mainGlobals "NO_SIGN" = some (some (.int 37 tk16)))
    (g_NUMBER_LIMIT : PySem.W.nsIn K mainGlobals "NUMBER_LIMIT" = some (some (.int 4294967296 tk18)))
    (g_HELD_AHEAD : PySem.W.nsIn K mainGlobals "HELD_AHEAD" = some (some (.int 1000 tk19)))
    (g_SIGNS : PySem.W.nsIn K mainGlobals "SIGNS" = some (some (.str SC_SIGNS tk17)))
    (b_isinstance : PySem.W.nsIn K mainGlobals "isinstance" = some none)
    (b_int : PySem.W.nsIn K mainGlobals "int" = some none)
    (b_bool : PySem.W.nsIn K mainGlobals "bool" = some none)
    (b_tuple : PySem.W.nsIn K mainGlobals "tuple" = some none)
    (b_list : PySem.W.nsIn K mainGlobals "list" = some none)
    (b_str : PySem.W.nsIn K mainGlobals "str" = some none)
    (b_len : PySem.W.nsIn K mainGlobals "len" = some none)
    (b_range : PySem.W.nsIn K mainGlobals "range" = some none)
    (b_zip : PySem.W.nsIn K mainGlobals "zip" = some none)
    (b_min : PySem.W.nsIn K mainGlobals "min" = some none)
    (b_all : PySem.W.nsIn K mainGlobals "all" = some none)
    (b_sum : PySem.W.nsIn K mainGlobals "sum" = some none)
    (b_abs : PySem.W.nsIn K mainGlobals "abs" = some none)
    (b_ord : PySem.W.nsIn K mainGlobals "ord" = some none)
    (b_repr : PySem.W.nsIn K mainGlobals "repr" = some none)
    (b_dict : PySem.W.nsIn K mainGlobals "dict" = some none)
    (b_max : PySem.W.nsIn K mainGlobals "max" = some none)
    (b_sorted : PySem.W.nsIn K mainGlobals "sorted" = some none)
    (b_enumerate : PySem.W.nsIn K mainGlobals "enumerate" = some none)
    (b_ValueError : PySem.W.nsIn K mainGlobals "ValueError" = some none)
    (w_c_Disk_pg : PySem.W.plainGet K c_Disk Str.empty = true)
    (w_c_Disk_hd : PySem.W.hasDictIn K c_Disk = true)
    (w_c_Disk_po : PySem.W.plainOver K c_Disk = true)
    (w_c_Disk_sa : PySem.W.findIn K (.ref c_Disk) "__setattr__" = some (some (.builtin "object.__setattr__")))
    (w_c_Disk_ca : PySem.W.findIn K (.ref c_Disk) "__class__" = some (some (.builtin "object.__class__")))
    (w_c_Disk_co : PySem.W.mroIn K c_Disk (.type "object") = some true)
    (w_c_Disk_ki : PySem.W.mroIn K c_Disk (.type "int") = some false)
    (w_c_Disk_kb : PySem.W.mroIn K c_Disk (.type "bool") = some false)
    (w_c_Disk_kt : PySem.W.mroIn K c_Disk (.type "tuple") = some false)
    (w_c_Disk_kl : PySem.W.mroIn K c_Disk (.type "list") = some false)
    (w_c_Disk_ks : PySem.W.mroIn K c_Disk (.type "str") = some false)
    (w_c_Disk_is : PySem.W.isClsIn K c_Disk = true)
    (w_c_Disk_ty : PySem.W.typeIn K (.ref c_Disk) = some (.type "type"))
    (w_c_Disk_mk : PySem.W.makesIn K c_Disk = true)
    (w_c_Disk_kp : PySem.W.keepIn K (.ref c_Disk) = true)
    (w_c_Outgoing_pg : PySem.W.plainGet K c_Outgoing Str.empty = true)
    (w_c_Outgoing_hd : PySem.W.hasDictIn K c_Outgoing = true)
    (w_c_Outgoing_po : PySem.W.plainOver K c_Outgoing = true)
    (w_c_Outgoing_sa : PySem.W.findIn K (.ref c_Outgoing) "__setattr__" = some (some (.builtin "object.__setattr__")))
    (w_c_Outgoing_ca : PySem.W.findIn K (.ref c_Outgoing) "__class__" = some (some (.builtin "object.__class__")))
    (w_c_Outgoing_co : PySem.W.mroIn K c_Outgoing (.type "object") = some true)
    (w_c_Outgoing_ki : PySem.W.mroIn K c_Outgoing (.type "int") = some false)
    (w_c_Outgoing_kb : PySem.W.mroIn K c_Outgoing (.type "bool") = some false)
    (w_c_Outgoing_kt : PySem.W.mroIn K c_Outgoing (.type "tuple") = some false)
    (w_c_Outgoing_kl : PySem.W.mroIn K c_Outgoing (.type "list") = some false)
    (w_c_Outgoing_ks : PySem.W.mroIn K c_Outgoing (.type "str") = some false)
    (w_c_Outgoing_is : PySem.W.isClsIn K c_Outgoing = true)
    (w_c_Outgoing_ty : PySem.W.typeIn K (.ref c_Outgoing) = some (.type "type"))
    (w_c_Outgoing_mk : PySem.W.makesIn K c_Outgoing = true)
    (w_c_Outgoing_kp : PySem.W.keepIn K (.ref c_Outgoing) = true)
    (w_c_Incoming_pg : PySem.W.plainGet K c_Incoming Str.empty = true)
    (w_c_Incoming_hd : PySem.W.hasDictIn K c_Incoming = true)
    (w_c_Incoming_po : PySem.W.plainOver K c_Incoming = true)
    (w_c_Incoming_sa : PySem.W.findIn K (.ref c_Incoming) "__setattr__" = some (some (.builtin "object.__setattr__")))
    (w_c_Incoming_ca : PySem.W.findIn K (.ref c_Incoming) "__class__" = some (some (.builtin "object.__class__")))
    (w_c_Incoming_co : PySem.W.mroIn K c_Incoming (.type "object") = some true)
    (w_c_Incoming_ki : PySem.W.mroIn K c_Incoming (.type "int") = some false)
    (w_c_Incoming_kb : PySem.W.mroIn K c_Incoming (.type "bool") = some false)
    (w_c_Incoming_kt : PySem.W.mroIn K c_Incoming (.type "tuple") = some false)
    (w_c_Incoming_kl : PySem.W.mroIn K c_Incoming (.type "list") = some false)
    (w_c_Incoming_ks : PySem.W.mroIn K c_Incoming (.type "str") = some false)
    (w_c_Incoming_is : PySem.W.isClsIn K c_Incoming = true)
    (w_c_Incoming_ty : PySem.W.typeIn K (.ref c_Incoming) = some (.type "type"))
    (w_c_Incoming_mk : PySem.W.makesIn K c_Incoming = true)
    (w_c_Incoming_kp : PySem.W.keepIn K (.ref c_Incoming) = true)
    (w_cg : PySem.W.specialIn K (.builtin "object.__class__") "__get__" = some (some (.builtin "getset_descriptor.__get__")))
    (w_ct : PySem.W.takesIn K (.builtin "object.__class__") = some true)
    (w_na_rows : PySem.W.findIn K (.ref c_Disk) "rows" = some none)
    (w_na_firm : PySem.W.findIn K (.ref c_Disk) "firm" = some none)
    (w_na_let_go : PySem.W.findIn K (.ref c_Outgoing) "let_go" = some none)
    (w_na_things : PySem.W.findIn K (.ref c_Outgoing) "things" = some none)
    (w_na_many : PySem.W.findIn K (.ref c_Incoming) "many" = some none)
    (w_na_ahead : PySem.W.findIn K (.ref c_Incoming) "ahead" = some none)
    (x0_l : K.lookup c_NoNumber = some (excClassObj nm0 q0 c_NoNumber N0 bs0 [.ref ss0, .type "ValueError", .type "Exception", .type "BaseException", .type "object"] true sn0 sub0 ab0 col0 dd0 ma0 mb0 mc0 md0 me0 "ValueError.__new__"))
    (x0_sa : PySem.W.findIn K (.ref c_NoNumber) "__setattr__" = some (some (.builtin "object.__setattr__")))
    (x0_ex : PySem.W.subIn K (.ref c_NoNumber) (.type "BaseException") = some true)
    (x0_ty : PySem.W.typeIn K (.ref c_NoNumber) = some (.type "type"))
    (x0_kp : PySem.W.keepIn K (.ref c_NoNumber) = true)
    (x0_is : PySem.W.isClsIn K c_NoNumber = true)
    (x1_l : K.lookup c_NoCut = some (excClassObj nm1 q1 c_NoCut N1 bs1 [.ref ss1, .type "ValueError", .type "Exception", .type "BaseException", .type "object"] true sn1 sub1 ab1 col1 dd1 ma1 mb1 mc1 md1 me1 "ValueError.__new__"))
    (x1_sa : PySem.W.findIn K (.ref c_NoCut) "__setattr__" = some (some (.builtin "object.__setattr__")))
    (x1_ex : PySem.W.subIn K (.ref c_NoCut) (.type "BaseException") = some true)
    (x1_ty : PySem.W.typeIn K (.ref c_NoCut) = some (.type "type"))
    (x1_kp : PySem.W.keepIn K (.ref c_NoCut) = true)
    (x1_is : PySem.W.isClsIn K c_NoCut = true)
    (x2_l : K.lookup c_NoBlocks = some (excClassObj nm2 q2 c_NoBlocks N2 bs2 [.ref ss2, .type "ValueError", .type "Exception", .type "BaseException", .type "object"] true sn2 sub2 ab2 col2 dd2 ma2 mb2 mc2 md2 me2 "ValueError.__new__"))
    (x2_sa : PySem.W.findIn K (.ref c_NoBlocks) "__setattr__" = some (some (.builtin "object.__setattr__")))
    (x2_ex : PySem.W.subIn K (.ref c_NoBlocks) (.type "BaseException") = some true)
    (x2_ty : PySem.W.typeIn K (.ref c_NoBlocks) = some (.type "type"))
    (x2_kp : PySem.W.keepIn K (.ref c_NoBlocks) = true)
    (x2_is : PySem.W.isClsIn K c_NoBlocks = true)
    (x3_l : K.lookup c_NoParcel = some (excClassObj nm3 q3 c_NoParcel N3 bs3 [.ref ss3, .type "ValueError", .type "Exception", .type "BaseException", .type "object"] true sn3 sub3 ab3 col3 dd3 ma3 mb3 mc3 md3 me3 "ValueError.__new__"))
    (x3_sa : PySem.W.findIn K (.ref c_NoParcel) "__setattr__" = some (some (.builtin "object.__setattr__")))
    (x3_ex : PySem.W.subIn K (.ref c_NoParcel) (.type "BaseException") = some true)
    (x3_ty : PySem.W.typeIn K (.ref c_NoParcel) = some (.type "type"))
    (x3_kp : PySem.W.keepIn K (.ref c_NoParcel) = true)
    (x3_is : PySem.W.isClsIn K c_NoParcel = true)
    (x4_l : K.lookup c_NoRow = some (excClassObj nm4 q4 c_NoRow N4 bs4 [.ref ss4, .type "ValueError", .type "Exception", .type "BaseException", .type "object"] true sn4 sub4 ab4 col4 dd4 ma4 mb4 mc4 md4 me4 "ValueError.__new__"))
    (x4_sa : PySem.W.findIn K (.ref c_NoRow) "__setattr__" = some (some (.builtin "object.__setattr__")))
    (x4_ex : PySem.W.subIn K (.ref c_NoRow) (.type "BaseException") = some true)
    (x4_ty : PySem.W.typeIn K (.ref c_NoRow) = some (.type "type"))
    (x4_kp : PySem.W.keepIn K (.ref c_NoRow) = true)
    (x4_is : PySem.W.isClsIn K c_NoRow = true)
    (x5_l : K.lookup c_BadRow = some (excClassObj nm5 q5 c_BadRow N5 bs5 [.ref ss5, .type "ValueError", .type "Exception", .type "BaseException", .type "object"] true sn5 sub5 ab5 col5 dd5 ma5 mb5 mc5 md5 me5 "ValueError.__new__"))
    (x5_sa : PySem.W.findIn K (.ref c_BadRow) "__setattr__" = some (some (.builtin "object.__setattr__")))
    (x5_ex : PySem.W.subIn K (.ref c_BadRow) (.type "BaseException") = some true)
    (x5_ty : PySem.W.typeIn K (.ref c_BadRow) = some (.type "type"))
    (x5_kp : PySem.W.keepIn K (.ref c_BadRow) = true)
    (x5_is : PySem.W.isClsIn K c_BadRow = true)
    (qna_place : PySem.W.findIn K (.ref c_BadRow) "place" = some none)
    (se_BadRowBadRow : PySem.W.subIn K (.ref c_BadRow) (.ref c_BadRow) = some true)
    (se_NoNumberNoNumber : PySem.W.subIn K (.ref c_NoNumber) (.ref c_NoNumber) = some true)
    (y_c_NoRowg : PySem.W.findIn K (.ref c_NoRow) "__getattribute__" = some (some (.builtin "BaseException.__getattribute__")))
    (y_c_NoRowk : PySem.W.findIn K (.ref c_NoRow) "__getattr__" = some none)
    (y_c_NoRows : PySem.W.subIn K (.ref c_NoRow) (.type "BaseException") = some true)
    (y_c_NoRowd : PySem.W.hasDictIn K c_NoRow = true)
    (y_c_NoRowa : PySem.W.findIn K (.ref c_NoRow) "__class__" = some (some (.builtin "object.__class__")))
    (y_c_NoRowm : PySem.W.mroIn K c_NoRow (.type "object") = some true)
    (y_c_NoParcelg : PySem.W.findIn K (.ref c_NoParcel) "__getattribute__" = some (some (.builtin "BaseException.__getattribute__")))
    (y_c_NoParcelk : PySem.W.findIn K (.ref c_NoParcel) "__getattr__" = some none)
    (y_c_NoParcels : PySem.W.subIn K (.ref c_NoParcel) (.type "BaseException") = some true)
    (y_c_NoParceld : PySem.W.hasDictIn K c_NoParcel = true)
    (y_c_NoParcela : PySem.W.findIn K (.ref c_NoParcel) "__class__" = some (some (.builtin "object.__class__")))
    (y_c_NoParcelm : PySem.W.mroIn K c_NoParcel (.type "object") = some true)
    (y_c_NoCutg : PySem.W.findIn K (.ref c_NoCut) "__getattribute__" = some (some (.builtin "BaseException.__getattribute__")))
    (y_c_NoCutk : PySem.W.findIn K (.ref c_NoCut) "__getattr__" = some none)
    (y_c_NoCuts : PySem.W.subIn K (.ref c_NoCut) (.type "BaseException") = some true)
    (y_c_NoCutd : PySem.W.hasDictIn K c_NoCut = true)
    (y_c_NoCuta : PySem.W.findIn K (.ref c_NoCut) "__class__" = some (some (.builtin "object.__class__")))
    (y_c_NoCutm : PySem.W.mroIn K c_NoCut (.type "object") = some true)
    (y_c_NoNumberg : PySem.W.findIn K (.ref c_NoNumber) "__getattribute__" = some (some (.builtin "BaseException.__getattribute__")))
    (y_c_NoNumberk : PySem.W.findIn K (.ref c_NoNumber) "__getattr__" = some none)
    (y_c_NoNumbers : PySem.W.subIn K (.ref c_NoNumber) (.type "BaseException") = some true)
    (y_c_NoNumberd : PySem.W.hasDictIn K c_NoNumber = true)
    (y_c_NoNumbera : PySem.W.findIn K (.ref c_NoNumber) "__class__" = some (some (.builtin "object.__class__")))
    (y_c_NoNumberm : PySem.W.mroIn K c_NoNumber (.type "object") = some true)
    (y_c_NoBlocksg : PySem.W.findIn K (.ref c_NoBlocks) "__getattribute__" = some (some (.builtin "BaseException.__getattribute__")))
    (y_c_NoBlocksk : PySem.W.findIn K (.ref c_NoBlocks) "__getattr__" = some none)
    (y_c_NoBlockss : PySem.W.subIn K (.ref c_NoBlocks) (.type "BaseException") = some true)
    (y_c_NoBlocksd : PySem.W.hasDictIn K c_NoBlocks = true)
    (y_c_NoBlocksa : PySem.W.findIn K (.ref c_NoBlocks) "__class__" = some (some (.builtin "object.__class__")))
    (y_c_NoBlocksm : PySem.W.mroIn K c_NoBlocks (.type "object") = some true)
    (v_c_NoParcel_is : PySem.W.isClsIn K c_NoParcel = true)
    (v_c_NoParcel_ty : PySem.W.typeIn K (.ref c_NoParcel) = some (.type "type"))
    (vs_c_NoRow : PySem.W.subIn K (.ref c_NoRow) (.ref c_NoRow) = some true)
    (uq_NoRowNoParcel : PySem.W.subIn K (.ref c_NoRow) (.ref c_NoParcel) = some false)
    (v_c_NoCut_is : PySem.W.isClsIn K c_NoCut = true)
    (v_c_NoCut_ty : PySem.W.typeIn K (.ref c_NoCut) = some (.type "type"))
    (uq_NoRowNoCut : PySem.W.subIn K (.ref c_NoRow) (.ref c_NoCut) = some false)
    (v_c_NoNumber_is : PySem.W.isClsIn K c_NoNumber = true)
    (v_c_NoNumber_ty : PySem.W.typeIn K (.ref c_NoNumber) = some (.type "type"))
    (uq_NoRowNoNumber : PySem.W.subIn K (.ref c_NoRow) (.ref c_NoNumber) = some false)
    (v_c_NoBlocks_is : PySem.W.isClsIn K c_NoBlocks = true)
    (v_c_NoBlocks_ty : PySem.W.typeIn K (.ref c_NoBlocks) = some (.type "type"))
    (uq_NoRowNoBlocks : PySem.W.subIn K (.ref c_NoRow) (.ref c_NoBlocks) = some false)
    (v_c_NoRow_is : PySem.W.isClsIn K c_NoRow = true)
    (v_c_NoRow_ty : PySem.W.typeIn K (.ref c_NoRow) = some (.type "type"))
    (vs_c_NoParcel : PySem.W.subIn K (.ref c_NoParcel) (.ref c_NoParcel) = some true)
    (uq_NoParcelNoRow : PySem.W.subIn K (.ref c_NoParcel) (.ref c_NoRow) = some false)
    (uq_NoParcelNoCut : PySem.W.subIn K (.ref c_NoParcel) (.ref c_NoCut) = some false)
    (uq_NoParcelNoNumber : PySem.W.subIn K (.ref c_NoParcel) (.ref c_NoNumber) = some false)
    (uq_NoParcelNoBlocks : PySem.W.subIn K (.ref c_NoParcel) (.ref c_NoBlocks) = some false)
    (vs_c_NoCut : PySem.W.subIn K (.ref c_NoCut) (.ref c_NoCut) = some true)
    (uq_NoCutNoRow : PySem.W.subIn K (.ref c_NoCut) (.ref c_NoRow) = some false)
    (uq_NoCutNoParcel : PySem.W.subIn K (.ref c_NoCut) (.ref c_NoParcel) = some false)
    (uq_NoCutNoNumber : PySem.W.subIn K (.ref c_NoCut) (.ref c_NoNumber) = some false)
    (uq_NoCutNoBlocks : PySem.W.subIn K (.ref c_NoCut) (.ref c_NoBlocks) = some false)
    (vs_c_NoNumber : PySem.W.subIn K (.ref c_NoNumber) (.ref c_NoNumber) = some true)
    (uq_NoNumberNoRow : PySem.W.subIn K (.ref c_NoNumber) (.ref c_NoRow) = some false)
    (uq_NoNumberNoParcel : PySem.W.subIn K (.ref c_NoNumber) (.ref c_NoParcel) = some false)
    (uq_NoNumberNoCut : PySem.W.subIn K (.ref c_NoNumber) (.ref c_NoCut) = some false)
    (uq_NoNumberNoBlocks : PySem.W.subIn K (.ref c_NoNumber) (.ref c_NoBlocks) = some false)
    (vs_c_NoBlocks : PySem.W.subIn K (.ref c_NoBlocks) (.ref c_NoBlocks) = some true)
    (uq_NoBlocksNoRow : PySem.W.subIn K (.ref c_NoBlocks) (.ref c_NoRow) = some false)
    (uq_NoBlocksNoParcel : PySem.W.subIn K (.ref c_NoBlocks) (.ref c_NoParcel) = some false)
    (uq_NoBlocksNoCut : PySem.W.subIn K (.ref c_NoBlocks) (.ref c_NoCut) = some false)
    (uq_NoBlocksNoNumber : PySem.W.subIn K (.ref c_NoBlocks) (.ref c_NoNumber) = some false)
    (uq_NoRowNoRow : PySem.W.subIn K (.ref c_NoRow) (.ref c_NoRow) = some true)
    (uq_NoRowVe : PySem.W.subIn K (.ref c_NoRow) (.type "ValueError") = some true)
    (uq_NoParcelNoParcel : PySem.W.subIn K (.ref c_NoParcel) (.ref c_NoParcel) = some true)
    (uq_NoParcelVe : PySem.W.subIn K (.ref c_NoParcel) (.type "ValueError") = some true)
    (uq_NoCutNoCut : PySem.W.subIn K (.ref c_NoCut) (.ref c_NoCut) = some true)
    (uq_NoCutVe : PySem.W.subIn K (.ref c_NoCut) (.type "ValueError") = some true)
    (uq_NoNumberNoNumber : PySem.W.subIn K (.ref c_NoNumber) (.ref c_NoNumber) = some true)
    (uq_NoNumberVe : PySem.W.subIn K (.ref c_NoNumber) (.type "ValueError") = some true)
    (uq_NoBlocksNoBlocks : PySem.W.subIn K (.ref c_NoBlocks) (.ref c_NoBlocks) = some true)
    (uq_NoBlocksVe : PySem.W.subIn K (.ref c_NoBlocks) (.type "ValueError") = some true)
    (v_c_StreamError_is : PySem.W.isClsIn K c_StreamError = true)
    (v_c_StreamError_ty : PySem.W.typeIn K (.ref c_StreamError) = some (.type "type"))
    (wr_NoRowStream : PySem.W.subIn K (.ref c_StreamError) (.type "BaseException") = some true)
    (ur_NoRowStream : PySem.W.subIn K (.ref c_NoRow) (.ref c_StreamError) = some true)
    (wr_NoParcelStream : PySem.W.subIn K (.ref c_StreamError) (.type "BaseException") = some true)
    (ur_NoParcelStream : PySem.W.subIn K (.ref c_NoParcel) (.ref c_StreamError) = some true)
    (wr_NoCutStream : PySem.W.subIn K (.ref c_StreamError) (.type "BaseException") = some true)
    (ur_NoCutStream : PySem.W.subIn K (.ref c_NoCut) (.ref c_StreamError) = some true)
    (wr_NoNumberStream : PySem.W.subIn K (.ref c_StreamError) (.type "BaseException") = some true)
    (ur_NoNumberStream : PySem.W.subIn K (.ref c_NoNumber) (.ref c_StreamError) = some true)
    (wr_NoBlocksStream : PySem.W.subIn K (.ref c_StreamError) (.type "BaseException") = some true)
    (ur_NoBlocksStream : PySem.W.subIn K (.ref c_NoBlocks) (.ref c_StreamError) = some true)
    (a0 : PySem.W.nsIn K mainGlobals "_wall" = some (some (.ref f0)))
    (l0 : K.lookup f0 = some ⟨oc0, od0, .func (PySem.W.fnOf "_wall" "_wall" (defArgs s_wall) (defBody s_wall) (defScope s_wall) .none kV0 dc0 pm0 an0 cd0 ct0), sl0⟩)
    (c0 : PySem.W.codeIn K cd0 "_wall" = true)
    (k0 : PySem.W.keepIn K (.ref f0) = true)
    (a1 : PySem.W.findIn K (.ref c_NoNumber) "__init__" = some (some (.ref f1)))
    (i1 : PySem.W.isFn K (.ref f1) = true)
    (t1 : PySem.W.typeIn K (.ref f1) = some (.type "function"))
    (l1 : K.lookup f1 = some ⟨oc1, od1, .func (PySem.W.fnOf "__init__" "NoNumber.__init__" (defArgs s_NoNumber_init) (defBody s_NoNumber_init) (defScope s_NoNumber_init) .none kV1 dc1 pm1 an1 cd1 ct1), sl1⟩)
    (c1 : PySem.W.codeIn K cd1 "NoNumber.__init__" = true)
    (k1 : PySem.W.keepIn K (.ref f1) = true)
    (a2 : PySem.W.findIn K (.ref c_NoParcel) "__init__" = some (some (.ref f2)))
    (i2 : PySem.W.isFn K (.ref f2) = true)
    (t2 : PySem.W.typeIn K (.ref f2) = some (.type "function"))
    (l2 : K.lookup f2 = some ⟨oc2, od2, .func (PySem.W.fnOf "__init__" "NoParcel.__init__" (defArgs s_NoParcel_init) (defBody s_NoParcel_init) (defScope s_NoParcel_init) .none kV2 dc2 pm2 an2 cd2 ct2), sl2⟩)
    (c2 : PySem.W.codeIn K cd2 "NoParcel.__init__" = true)
    (k2 : PySem.W.keepIn K (.ref f2) = true)
    (a3 : PySem.W.findIn K (.ref c_NoRow) "__init__" = some (some (.ref f3)))
    (i3 : PySem.W.isFn K (.ref f3) = true)
    (t3 : PySem.W.typeIn K (.ref f3) = some (.type "function"))
    (l3 : K.lookup f3 = some ⟨oc3, od3, .func (PySem.W.fnOf "__init__" "NoRow.__init__" (defArgs s_NoRow_init) (defBody s_NoRow_init) (defScope s_NoRow_init) .none kV3 dc3 pm3 an3 cd3 ct3), sl3⟩)
    (c3 : PySem.W.codeIn K cd3 "NoRow.__init__" = true)
    (k3 : PySem.W.keepIn K (.ref f3) = true)
    (a4 : PySem.W.findIn K (.ref c_BadRow) "__init__" = some (some (.ref f4)))
    (i4 : PySem.W.isFn K (.ref f4) = true)
    (t4 : PySem.W.typeIn K (.ref f4) = some (.type "function"))
    (l4 : K.lookup f4 = some ⟨oc4, od4, .func (PySem.W.fnOf "__init__" "BadRow.__init__" (defArgs s_BadRow_init) (defBody s_BadRow_init) (defScope s_BadRow_init) .none kV4 dc4 pm4 an4 cd4 ct4), sl4⟩)
    (c4 : PySem.W.codeIn K cd4 "BadRow.__init__" = true)
    (k4 : PySem.W.keepIn K (.ref f4) = true)
    (a5 : PySem.W.findIn K (.ref c_NoCut) "__init__" = some (some (.ref f5)))
    (i5 : PySem.W.isFn K (.ref f5) = true)
    (t5 : PySem.W.typeIn K (.ref f5) = some (.type "function"))
    (l5 : K.lookup f5 = some ⟨oc5, od5, .func (PySem.W.fnOf "__init__" "NoCut.__init__" (defArgs s_NoCut_init) (defBody s_NoCut_init) (defScope s_NoCut_init) .none kV5 dc5 pm5 an5 cd5 ct5), sl5⟩)
    (c5 : PySem.W.codeIn K cd5 "NoCut.__init__" = true)
    (k5 : PySem.W.keepIn K (.ref f5) = true)
    (a6 : PySem.W.findIn K (.ref c_NoBlocks) "__init__" = some (some (.ref f6)))
    (i6 : PySem.W.isFn K (.ref f6) = true)
    (t6 : PySem.W.typeIn K (.ref f6) = some (.type "function"))
    (l6 : K.lookup f6 = some ⟨oc6, od6, .func (PySem.W.fnOf "__init__" "NoBlocks.__init__" (defArgs s_NoBlocks_init) (defBody s_NoBlocks_init) (defScope s_NoBlocks_init) .none kV6 dc6 pm6 an6 cd6 ct6), sl6⟩)
    (c6 : PySem.W.codeIn K cd6 "NoBlocks.__init__" = true)
    (k6 : PySem.W.keepIn K (.ref f6) = true)
    (a7 : PySem.W.nsIn K mainGlobals "is_int" = some (some (.ref f7)))
    (l7 : K.lookup f7 = some ⟨oc7, od7, .func (PySem.W.fnOf "is_int" "is_int" (defArgs s_is_int) (defBody s_is_int) (defScope s_is_int) .none kV7 dc7 pm7 an7 cd7 ct7), sl7⟩)
    (c7 : PySem.W.codeIn K cd7 "is_int" = true)
    (k7 : PySem.W.keepIn K (.ref f7) = true)
    (a8 : PySem.W.nsIn K mainGlobals "is_number" = some (some (.ref f8)))
    (l8 : K.lookup f8 = some ⟨oc8, od8, .func (PySem.W.fnOf "is_number" "is_number" (defArgs s_is_number) (defBody s_is_number) (defScope s_is_number) .none kV8 dc8 pm8 an8 cd8 ct8), sl8⟩)
    (c8 : PySem.W.codeIn K cd8 "is_number" = true)
    (k8 : PySem.W.keepIn K (.ref f8) = true)
    (a9 : PySem.W.nsIn K mainGlobals "is_number_below" = some (some (.ref f9)))
    (l9 : K.lookup f9 = some ⟨oc9, od9, .func (PySem.W.fnOf "is_number_below" "is_number_below" (defArgs s_is_number_below) (defBody s_is_number_below) (defScope s_is_number_below) .none kV9 dc9 pm9 an9 cd9 ct9), sl9⟩)
    (c9 : PySem.W.codeIn K cd9 "is_number_below" = true)
    (k9 : PySem.W.keepIn K (.ref f9) = true)
    (a10 : PySem.W.nsIn K mainGlobals "is_tuple_of" = some (some (.ref f10)))
    (l10 : K.lookup f10 = some ⟨oc10, od10, .func (PySem.W.fnOf "is_tuple_of" "is_tuple_of" (defArgs s_is_tuple_of) (defBody s_is_tuple_of) (defScope s_is_tuple_of) .none kV10 dc10 pm10 an10 cd10 ct10), sl10⟩)
    (c10 : PySem.W.codeIn K cd10 "is_tuple_of" = true)
    (k10 : PySem.W.keepIn K (.ref f10) = true)
    (a11 : PySem.W.nsIn K mainGlobals "is_link_number" = some (some (.ref f11)))
    (l11 : K.lookup f11 = some ⟨oc11, od11, .func (PySem.W.fnOf "is_link_number" "is_link_number" (defArgs s_is_link_number) (defBody s_is_link_number) (defScope s_is_link_number) .none kV11 dc11 pm11 an11 cd11 ct11), sl11⟩)
    (c11 : PySem.W.codeIn K cd11 "is_link_number" = true)
    (k11 : PySem.W.keepIn K (.ref f11) = true)
    (a12 : PySem.W.findIn K (.ref c_Outgoing) "__init__" = some (some (.ref f12)))
    (i12 : PySem.W.isFn K (.ref f12) = true)
    (t12 : PySem.W.typeIn K (.ref f12) = some (.type "function"))
    (l12 : K.lookup f12 = some ⟨oc12, od12, .func (PySem.W.fnOf "__init__" "Outgoing.__init__" (defArgs s_Outgoing_init) (defBody s_Outgoing_init) (defScope s_Outgoing_init) .none kV12 dc12 pm12 an12 cd12 ct12), sl12⟩)
    (c12 : PySem.W.codeIn K cd12 "Outgoing.__init__" = true)
    (k12 : PySem.W.keepIn K (.ref f12) = true)
    (a13 : PySem.W.findIn K (.ref c_Outgoing) "put" = some (some (.ref f13)))
    (i13 : PySem.W.isFn K (.ref f13) = true)
    (t13 : PySem.W.typeIn K (.ref f13) = some (.type "function"))
    (l13 : K.lookup f13 = some ⟨oc13, od13, .func (PySem.W.fnOf "put" "Outgoing.put" (defArgs s_Outgoing_put) (defBody s_Outgoing_put) (defScope s_Outgoing_put) .none kV13 dc13 pm13 an13 cd13 ct13), sl13⟩)
    (c13 : PySem.W.codeIn K cd13 "Outgoing.put" = true)
    (k13 : PySem.W.keepIn K (.ref f13) = true)
    (a14 : PySem.W.findIn K (.ref c_Outgoing) "known" = some (some (.ref f14)))
    (i14 : PySem.W.isFn K (.ref f14) = true)
    (t14 : PySem.W.typeIn K (.ref f14) = some (.type "function"))
    (l14 : K.lookup f14 = some ⟨oc14, od14, .func (PySem.W.fnOf "known" "Outgoing.known" (defArgs s_Outgoing_known) (defBody s_Outgoing_known) (defScope s_Outgoing_known) .none kV14 dc14 pm14 an14 cd14 ct14), sl14⟩)
    (c14 : PySem.W.codeIn K cd14 "Outgoing.known" = true)
    (k14 : PySem.W.keepIn K (.ref f14) = true)
    (a15 : PySem.W.findIn K (.ref c_Outgoing) "waiting" = some (some (.ref f15)))
    (i15 : PySem.W.isFn K (.ref f15) = true)
    (t15 : PySem.W.typeIn K (.ref f15) = some (.type "function"))
    (l15 : K.lookup f15 = some ⟨oc15, od15, .func (PySem.W.fnOf "waiting" "Outgoing.waiting" (defArgs s_Outgoing_waiting) (defBody s_Outgoing_waiting) (defScope s_Outgoing_waiting) .none kV15 dc15 pm15 an15 cd15 ct15), sl15⟩)
    (c15 : PySem.W.codeIn K cd15 "Outgoing.waiting" = true)
    (k15 : PySem.W.keepIn K (.ref f15) = true)
    (a16 : PySem.W.findIn K (.ref c_Outgoing) "many_put" = some (some (.ref f16)))
    (i16 : PySem.W.isFn K (.ref f16) = true)
    (t16 : PySem.W.typeIn K (.ref f16) = some (.type "function"))
    (l16 : K.lookup f16 = some ⟨oc16, od16, .func (PySem.W.fnOf "many_put" "Outgoing.many_put" (defArgs s_Outgoing_many_put) (defBody s_Outgoing_many_put) (defScope s_Outgoing_many_put) .none kV16 dc16 pm16 an16 cd16 ct16), sl16⟩)
    (c16 : PySem.W.codeIn K cd16 "Outgoing.many_put" = true)
    (k16 : PySem.W.keepIn K (.ref f16) = true)
    (a17 : PySem.W.findIn K (.ref c_Outgoing) "state" = some (some (.ref f17)))
    (i17 : PySem.W.isFn K (.ref f17) = true)
    (t17 : PySem.W.typeIn K (.ref f17) = some (.type "function"))
    (l17 : K.lookup f17 = some ⟨oc17, od17, .func (PySem.W.fnOf "state" "Outgoing.state" (defArgs s_Outgoing_state) (defBody s_Outgoing_state) (defScope s_Outgoing_state) .none kV17 dc17 pm17 an17 cd17 ct17), sl17⟩)
    (c17 : PySem.W.codeIn K cd17 "Outgoing.state" = true)
    (k17 : PySem.W.keepIn K (.ref f17) = true)
    (a18 : PySem.W.findIn K (.ref c_Outgoing) "copy" = some (some (.ref f18)))
    (i18 : PySem.W.isFn K (.ref f18) = true)
    (t18 : PySem.W.typeIn K (.ref f18) = some (.type "function"))
    (l18 : K.lookup f18 = some ⟨oc18, od18, .func (PySem.W.fnOf "copy" "Outgoing.copy" (defArgs s_Outgoing_copy) (defBody s_Outgoing_copy) (defScope s_Outgoing_copy) .none kV18 dc18 pm18 an18 cd18 ct18), sl18⟩)
    (c18 : PySem.W.codeIn K cd18 "Outgoing.copy" = true)
    (k18 : PySem.W.keepIn K (.ref f18) = true)
    (a19 : PySem.W.findIn K (.ref c_Incoming) "__init__" = some (some (.ref f19)))
    (i19 : PySem.W.isFn K (.ref f19) = true)
    (t19 : PySem.W.typeIn K (.ref f19) = some (.type "function"))
    (l19 : K.lookup f19 = some ⟨oc19, od19, .func (PySem.W.fnOf "__init__" "Incoming.__init__" (defArgs s_Incoming_init) (defBody s_Incoming_init) (defScope s_Incoming_init) .none kV19 dc19 pm19 an19 cd19 ct19), sl19⟩)
    (c19 : PySem.W.codeIn K cd19 "Incoming.__init__" = true)
    (k19 : PySem.W.keepIn K (.ref f19) = true)
    (a20 : PySem.W.findIn K (.ref c_Incoming) "take" = some (some (.ref f20)))
    (i20 : PySem.W.isFn K (.ref f20) = true)
    (t20 : PySem.W.typeIn K (.ref f20) = some (.type "function"))
    (l20 : K.lookup f20 = some ⟨oc20, od20, .func (PySem.W.fnOf "take" "Incoming.take" (defArgs s_Incoming_take) (defBody s_Incoming_take) (defScope s_Incoming_take) .none kV20 dc20 pm20 an20 cd20 ct20), sl20⟩)
    (c20 : PySem.W.codeIn K cd20 "Incoming.take" = true)
    (k20 : PySem.W.keepIn K (.ref f20) = true)
    (a21 : PySem.W.findIn K (.ref c_Incoming) "taken" = some (some (.ref f21)))
    (i21 : PySem.W.isFn K (.ref f21) = true)
    (t21 : PySem.W.typeIn K (.ref f21) = some (.type "function"))
    (l21 : K.lookup f21 = some ⟨oc21, od21, .func (PySem.W.fnOf "taken" "Incoming.taken" (defArgs s_Incoming_taken) (defBody s_Incoming_taken) (defScope s_Incoming_taken) .none kV21 dc21 pm21 an21 cd21 ct21), sl21⟩)
    (c21 : PySem.W.codeIn K cd21 "Incoming.taken" = true)
    (k21 : PySem.W.keepIn K (.ref f21) = true)
    (a22 : PySem.W.findIn K (.ref c_Incoming) "held" = some (some (.ref f22)))
    (i22 : PySem.W.isFn K (.ref f22) = true)
    (t22 : PySem.W.typeIn K (.ref f22) = some (.type "function"))
    (l22 : K.lookup f22 = some ⟨oc22, od22, .func (PySem.W.fnOf "held" "Incoming.held" (defArgs s_Incoming_held) (defBody s_Incoming_held) (defScope s_Incoming_held) .none kV22 dc22 pm22 an22 cd22 ct22), sl22⟩)
    (c22 : PySem.W.codeIn K cd22 "Incoming.held" = true)
    (k22 : PySem.W.keepIn K (.ref f22) = true)
    (a23 : PySem.W.findIn K (.ref c_Incoming) "state" = some (some (.ref f23)))
    (i23 : PySem.W.isFn K (.ref f23) = true)
    (t23 : PySem.W.typeIn K (.ref f23) = some (.type "function"))
    (l23 : K.lookup f23 = some ⟨oc23, od23, .func (PySem.W.fnOf "state" "Incoming.state" (defArgs s_Incoming_state) (defBody s_Incoming_state) (defScope s_Incoming_state) .none kV23 dc23 pm23 an23 cd23 ct23), sl23⟩)
    (c23 : PySem.W.codeIn K cd23 "Incoming.state" = true)
    (k23 : PySem.W.keepIn K (.ref f23) = true)
    (a24 : PySem.W.findIn K (.ref c_Incoming) "copy" = some (some (.ref f24)))
    (i24 : PySem.W.isFn K (.ref f24) = true)
    (t24 : PySem.W.typeIn K (.ref f24) = some (.type "function"))
    (l24 : K.lookup f24 = some ⟨oc24, od24, .func (PySem.W.fnOf "copy" "Incoming.copy" (defArgs s_Incoming_copy) (defBody s_Incoming_copy) (defScope s_Incoming_copy) .none kV24 dc24 pm24 an24 cd24 ct24), sl24⟩)
    (c24 : PySem.W.codeIn K cd24 "Incoming.copy" = true)
    (k24 : PySem.W.keepIn K (.ref f24) = true)
    (a25 : PySem.W.nsIn K mainGlobals "is_byte" = some (some (.ref f25)))
    (l25 : K.lookup f25 = some ⟨oc25, od25, .func (PySem.W.fnOf "is_byte" "is_byte" (defArgs s_is_byte) (defBody s_is_byte) (defScope s_is_byte) .none kV25 dc25 pm25 an25 cd25 ct25), sl25⟩)
    (c25 : PySem.W.codeIn K cd25 "is_byte" = true)
    (k25 : PySem.W.keepIn K (.ref f25) = true)
    (a26 : PySem.W.nsIn K mainGlobals "is_row" = some (some (.ref f26)))
    (l26 : K.lookup f26 = some ⟨oc26, od26, .func (PySem.W.fnOf "is_row" "is_row" (defArgs s_is_row) (defBody s_is_row) (defScope s_is_row) .none kV26 dc26 pm26 an26 cd26 ct26), sl26⟩)
    (c26 : PySem.W.codeIn K cd26 "is_row" = true)
    (k26 : PySem.W.keepIn K (.ref f26) = true)
    (a27 : PySem.W.nsIn K mainGlobals "check_row" = some (some (.ref f27)))
    (l27 : K.lookup f27 = some ⟨oc27, od27, .func (PySem.W.fnOf "check_row" "check_row" (defArgs s_check_row) (defBody s_check_row) (defScope s_check_row) .none kV27 dc27 pm27 an27 cd27 ct27), sl27⟩)
    (c27 : PySem.W.codeIn K cd27 "check_row" = true)
    (k27 : PySem.W.keepIn K (.ref f27) = true)
    (a28 : PySem.W.nsIn K mainGlobals "_is_sign" = some (some (.ref f28)))
    (l28 : K.lookup f28 = some ⟨oc28, od28, .func (PySem.W.fnOf "_is_sign" "_is_sign" (defArgs s_is_sign) (defBody s_is_sign) (defScope s_is_sign) .none kV28 dc28 pm28 an28 cd28 ct28), sl28⟩)
    (c28 : PySem.W.codeIn K cd28 "_is_sign" = true)
    (k28 : PySem.W.keepIn K (.ref f28) = true)
    (a29 : PySem.W.nsIn K mainGlobals "is_parcel" = some (some (.ref f29)))
    (l29 : K.lookup f29 = some ⟨oc29, od29, .func (PySem.W.fnOf "is_parcel" "is_parcel" (defArgs s_is_parcel) (defBody s_is_parcel) (defScope s_is_parcel) .none kV29 dc29 pm29 an29 cd29 ct29), sl29⟩)
    (c29 : PySem.W.codeIn K cd29 "is_parcel" = true)
    (k29 : PySem.W.keepIn K (.ref f29) = true)
    (a30 : PySem.W.nsIn K mainGlobals "_is_parcel_within" = some (some (.ref f30)))
    (l30 : K.lookup f30 = some ⟨oc30, od30, .func (PySem.W.fnOf "_is_parcel_within" "_is_parcel_within" (defArgs s_is_parcel_within) (defBody s_is_parcel_within) (defScope s_is_parcel_within) .none kV30 dc30 pm30 an30 cd30 ct30), sl30⟩)
    (c30 : PySem.W.codeIn K cd30 "_is_parcel_within" = true)
    (k30 : PySem.W.keepIn K (.ref f30) = true)
    (a31 : PySem.W.nsIn K mainGlobals "row_of" = some (some (.ref f31)))
    (l31 : K.lookup f31 = some ⟨oc31, od31, .func (PySem.W.fnOf "row_of" "row_of" (defArgs s_row_of) (defBody s_row_of) (defScope s_row_of) .none kV31 dc31 pm31 an31 cd31 ct31), sl31⟩)
    (c31 : PySem.W.codeIn K cd31 "row_of" = true)
    (k31 : PySem.W.keepIn K (.ref f31) = true)
    (a32 : PySem.W.nsIn K mainGlobals "_told" = some (some (.ref f32)))
    (l32 : K.lookup f32 = some ⟨oc32, od32, .func (PySem.W.fnOf "_told" "_told" (defArgs s_told) (defBody s_told) (defScope s_told) .none kV32 dc32 pm32 an32 cd32 ct32), sl32⟩)
    (c32 : PySem.W.codeIn K cd32 "_told" = true)
    (k32 : PySem.W.keepIn K (.ref f32) = true)
    (a33 : PySem.W.nsIn K mainGlobals "_whole" = some (some (.ref f33)))
    (l33 : K.lookup f33 = some ⟨oc33, od33, .func (PySem.W.fnOf "_whole" "_whole" (defArgs s_whole) (defBody s_whole) (defScope s_whole) .none kV33 dc33 pm33 an33 cd33 ct33), sl33⟩)
    (c33 : PySem.W.codeIn K cd33 "_whole" = true)
    (k33 : PySem.W.keepIn K (.ref f33) = true)
    (a34 : PySem.W.nsIn K mainGlobals "parcel_of" = some (some (.ref f34)))
    (l34 : K.lookup f34 = some ⟨oc34, od34, .func (PySem.W.fnOf "parcel_of" "parcel_of" (defArgs s_parcel_of) (defBody s_parcel_of) (defScope s_parcel_of) .none kV34 dc34 pm34 an34 cd34 ct34), sl34⟩)
    (c34 : PySem.W.codeIn K cd34 "parcel_of" = true)
    (k34 : PySem.W.keepIn K (.ref f34) = true)
    (a35 : PySem.W.nsIn K mainGlobals "_check_there" = some (some (.ref f35)))
    (l35 : K.lookup f35 = some ⟨oc35, od35, .func (PySem.W.fnOf "_check_there" "_check_there" (defArgs s_check_there) (defBody s_check_there) (defScope s_check_there) .none kV35 dc35 pm35 an35 cd35 ct35), sl35⟩)
    (c35 : PySem.W.codeIn K cd35 "_check_there" = true)
    (k35 : PySem.W.keepIn K (.ref f35) = true)
    (a36 : PySem.W.nsIn K mainGlobals "_parcel_at" = some (some (.ref f36)))
    (l36 : K.lookup f36 = some ⟨oc36, od36, .func (PySem.W.fnOf "_parcel_at" "_parcel_at" (defArgs s_parcel_at) (defBody s_parcel_at) (defScope s_parcel_at) .none kV36 dc36 pm36 an36 cd36 ct36), sl36⟩)
    (c36 : PySem.W.codeIn K cd36 "_parcel_at" = true)
    (k36 : PySem.W.keepIn K (.ref f36) = true)
    (a37 : PySem.W.nsIn K mainGlobals "_whole_at" = some (some (.ref f37)))
    (l37 : K.lookup f37 = some ⟨oc37, od37, .func (PySem.W.fnOf "_whole_at" "_whole_at" (defArgs s_whole_at) (defBody s_whole_at) (defScope s_whole_at) .none kV37 dc37 pm37 an37 cd37 ct37), sl37⟩)
    (c37 : PySem.W.codeIn K cd37 "_whole_at" = true)
    (k37 : PySem.W.keepIn K (.ref f37) = true)
    (a38 : PySem.W.nsIn K mainGlobals "_string_at" = some (some (.ref f38)))
    (l38 : K.lookup f38 = some ⟨oc38, od38, .func (PySem.W.fnOf "_string_at" "_string_at" (defArgs s_string_at) (defBody s_string_at) (defScope s_string_at) .none kV38 dc38 pm38 an38 cd38 ct38), sl38⟩)
    (c38 : PySem.W.codeIn K cd38 "_string_at" = true)
    (k38 : PySem.W.keepIn K (.ref f38) = true)
    (a39 : PySem.W.nsIn K mainGlobals "_tuple_at" = some (some (.ref f39)))
    (l39 : K.lookup f39 = some ⟨oc39, od39, .func (PySem.W.fnOf "_tuple_at" "_tuple_at" (defArgs s_tuple_at) (defBody s_tuple_at) (defScope s_tuple_at) .none kV39 dc39 pm39 an39 cd39 ct39), sl39⟩)
    (c39 : PySem.W.codeIn K cd39 "_tuple_at" = true)
    (k39 : PySem.W.keepIn K (.ref f39) = true)
    (a40 : PySem.W.nsIn K mainGlobals "mark" = some (some (.ref f40)))
    (l40 : K.lookup f40 = some ⟨oc40, od40, .func (PySem.W.fnOf "mark" "mark" (defArgs s_mark) (defBody s_mark) (defScope s_mark) .none kV40 dc40 pm40 an40 cd40 ct40), sl40⟩)
    (c40 : PySem.W.codeIn K cd40 "mark" = true)
    (k40 : PySem.W.keepIn K (.ref f40) = true)
    (a41 : PySem.W.nsIn K mainGlobals "_mark_of" = some (some (.ref f41)))
    (l41 : K.lookup f41 = some ⟨oc41, od41, .func (PySem.W.fnOf "_mark_of" "_mark_of" (defArgs s_mark_of) (defBody s_mark_of) (defScope s_mark_of) .none kV41 dc41 pm41 an41 cd41 ct41), sl41⟩)
    (c41 : PySem.W.codeIn K cd41 "_mark_of" = true)
    (k41 : PySem.W.keepIn K (.ref f41) = true)
    (a42 : PySem.W.nsIn K mainGlobals "_seal" = some (some (.ref f42)))
    (l42 : K.lookup f42 = some ⟨oc42, od42, .func (PySem.W.fnOf "_seal" "_seal" (defArgs s_seal_) (defBody s_seal_) (defScope s_seal_) .none kV42 dc42 pm42 an42 cd42 ct42), sl42⟩)
    (c42 : PySem.W.codeIn K cd42 "_seal" = true)
    (k42 : PySem.W.keepIn K (.ref f42) = true)
    (a43 : PySem.W.nsIn K mainGlobals "sealed" = some (some (.ref f43)))
    (l43 : K.lookup f43 = some ⟨oc43, od43, .func (PySem.W.fnOf "sealed" "sealed" (defArgs s_sealed) (defBody s_sealed) (defScope s_sealed) .none kV43 dc43 pm43 an43 cd43 ct43), sl43⟩)
    (c43 : PySem.W.codeIn K cd43 "sealed" = true)
    (k43 : PySem.W.keepIn K (.ref f43) = true)
    (a44 : PySem.W.nsIn K mainGlobals "unsealed" = some (some (.ref f44)))
    (l44 : K.lookup f44 = some ⟨oc44, od44, .func (PySem.W.fnOf "unsealed" "unsealed" (defArgs s_unsealed) (defBody s_unsealed) (defScope s_unsealed) .none kV44 dc44 pm44 an44 cd44 ct44), sl44⟩)
    (c44 : PySem.W.codeIn K cd44 "unsealed" = true)
    (k44 : PySem.W.keepIn K (.ref f44) = true)
    (a45 : PySem.W.findIn K (.ref c_Disk) "__init__" = some (some (.ref f45)))
    (i45 : PySem.W.isFn K (.ref f45) = true)
    (t45 : PySem.W.typeIn K (.ref f45) = some (.type "function"))
    (l45 : K.lookup f45 = some ⟨oc45, od45, .func (PySem.W.fnOf "__init__" "Disk.__init__" (defArgs s_Disk_init) (defBody s_Disk_init) (defScope s_Disk_init) .none kV45 dc45 pm45 an45 cd45 ct45), sl45⟩)
    (c45 : PySem.W.codeIn K cd45 "Disk.__init__" = true)
    (k45 : PySem.W.keepIn K (.ref f45) = true)
    (a46 : PySem.W.findIn K (.ref c_Disk) "write" = some (some (.ref f46)))
    (i46 : PySem.W.isFn K (.ref f46) = true)
    (t46 : PySem.W.typeIn K (.ref f46) = some (.type "function"))
    (l46 : K.lookup f46 = some ⟨oc46, od46, .func (PySem.W.fnOf "write" "Disk.write" (defArgs s_Disk_write) (defBody s_Disk_write) (defScope s_Disk_write) .none kV46 dc46 pm46 an46 cd46 ct46), sl46⟩)
    (c46 : PySem.W.codeIn K cd46 "Disk.write" = true)
    (k46 : PySem.W.keepIn K (.ref f46) = true)
    (a47 : PySem.W.findIn K (.ref c_Disk) "sync" = some (some (.ref f47)))
    (i47 : PySem.W.isFn K (.ref f47) = true)
    (t47 : PySem.W.typeIn K (.ref f47) = some (.type "function"))
    (l47 : K.lookup f47 = some ⟨oc47, od47, .func (PySem.W.fnOf "sync" "Disk.sync" (defArgs s_Disk_sync) (defBody s_Disk_sync) (defScope s_Disk_sync) .none kV47 dc47 pm47 an47 cd47 ct47), sl47⟩)
    (c47 : PySem.W.codeIn K cd47 "Disk.sync" = true)
    (k47 : PySem.W.keepIn K (.ref f47) = true)
    (a48 : PySem.W.findIn K (.ref c_Disk) "blocks" = some (some (.ref f48)))
    (i48 : PySem.W.isFn K (.ref f48) = true)
    (t48 : PySem.W.typeIn K (.ref f48) = some (.type "function"))
    (l48 : K.lookup f48 = some ⟨oc48, od48, .func (PySem.W.fnOf "blocks" "Disk.blocks" (defArgs s_Disk_blocks) (defBody s_Disk_blocks) (defScope s_Disk_blocks) .none kV48 dc48 pm48 an48 cd48 ct48), sl48⟩)
    (c48 : PySem.W.codeIn K cd48 "Disk.blocks" = true)
    (k48 : PySem.W.keepIn K (.ref f48) = true)
    (a49 : PySem.W.findIn K (.ref c_Disk) "synced" = some (some (.ref f49)))
    (i49 : PySem.W.isFn K (.ref f49) = true)
    (t49 : PySem.W.typeIn K (.ref f49) = some (.type "function"))
    (l49 : K.lookup f49 = some ⟨oc49, od49, .func (PySem.W.fnOf "synced" "Disk.synced" (defArgs s_Disk_synced) (defBody s_Disk_synced) (defScope s_Disk_synced) .none kV49 dc49 pm49 an49 cd49 ct49), sl49⟩)
    (c49 : PySem.W.codeIn K cd49 "Disk.synced" = true)
    (k49 : PySem.W.keepIn K (.ref f49) = true)
    (a50 : PySem.W.findIn K (.ref c_Disk) "cut" = some (some (.ref f50)))
    (i50 : PySem.W.isFn K (.ref f50) = true)
    (t50 : PySem.W.typeIn K (.ref f50) = some (.type "function"))
    (l50 : K.lookup f50 = some ⟨oc50, od50, .func (PySem.W.fnOf "cut" "Disk.cut" (defArgs s_Disk_cut) (defBody s_Disk_cut) (defScope s_Disk_cut) .none kV50 dc50 pm50 an50 cd50 ct50), sl50⟩)
    (c50 : PySem.W.codeIn K cd50 "Disk.cut" = true)
    (k50 : PySem.W.keepIn K (.ref f50) = true)
    (a51 : PySem.W.findIn K (.ref c_Disk) "drop" = some (some (.ref f51)))
    (i51 : PySem.W.isFn K (.ref f51) = true)
    (t51 : PySem.W.typeIn K (.ref f51) = some (.type "function"))
    (l51 : K.lookup f51 = some ⟨oc51, od51, .func (PySem.W.fnOf "drop" "Disk.drop" (defArgs s_Disk_drop) (defBody s_Disk_drop) (defScope s_Disk_drop) .none kV51 dc51 pm51 an51 cd51 ct51), sl51⟩)
    (c51 : PySem.W.codeIn K cd51 "Disk.drop" = true)
    (k51 : PySem.W.keepIn K (.ref f51) = true)
    (a52 : PySem.W.findIn K (.ref c_Disk) "copy" = some (some (.ref f52)))
    (i52 : PySem.W.isFn K (.ref f52) = true)
    (t52 : PySem.W.typeIn K (.ref f52) = some (.type "function"))
    (l52 : K.lookup f52 = some ⟨oc52, od52, .func (PySem.W.fnOf "copy" "Disk.copy" (defArgs s_Disk_copy) (defBody s_Disk_copy) (defScope s_Disk_copy) .none kV52 dc52 pm52 an52 cd52 ct52), sl52⟩)
    (c52 : PySem.W.codeIn K cd52 "Disk.copy" = true)
    (k52 : PySem.W.keepIn K (.ref f52) = true)
    (a53 : PySem.W.nsIn K mainGlobals "_is_cut" = some (some (.ref f53)))
    (l53 : K.lookup f53 = some ⟨oc53, od53, .func (PySem.W.fnOf "_is_cut" "_is_cut" (defArgs s_is_cut) (defBody s_is_cut) (defScope s_is_cut) .none kV53 dc53 pm53 an53 cd53 ct53), sl53⟩)
    (c53 : PySem.W.codeIn K cd53 "_is_cut" = true)
    (k53 : PySem.W.keepIn K (.ref f53) = true)
    (a54 : PySem.W.nsIn K mainGlobals "kept_parcels" = some (some (.ref f54)))
    (l54 : K.lookup f54 = some ⟨oc54, od54, .func (PySem.W.fnOf "kept_parcels" "kept_parcels" (defArgs s_kept_parcels) (defBody s_kept_parcels) (defScope s_kept_parcels) .none kV54 dc54 pm54 an54 cd54 ct54), sl54⟩)
    (c54 : PySem.W.codeIn K cd54 "kept_parcels" = true)
    (k54 : PySem.W.keepIn K (.ref f54) = true)
    (a55 : PySem.W.nsIn K mainGlobals "_law_hand" = some (some (.ref f55)))
    (l55 : K.lookup f55 = some ⟨oc55, od55, .func (PySem.W.fnOf "_law_hand" "_law_hand" (defArgs s_law_hand) (defBody s_law_hand) (defScope s_law_hand) .none kV55 dc55 pm55 an55 cd55 ct55), sl55⟩)
    (c55 : PySem.W.codeIn K cd55 "_law_hand" = true)
    (k55 : PySem.W.keepIn K (.ref f55) = true)
    (a56 : PySem.W.nsIn K mainGlobals "_law_take" = some (some (.ref f56)))
    (l56 : K.lookup f56 = some ⟨oc56, od56, .func (PySem.W.fnOf "_law_take" "_law_take" (defArgs s_law_take) (defBody s_law_take) (defScope s_law_take) .none kV56 dc56 pm56 an56 cd56 ct56), sl56⟩)
    (c56 : PySem.W.codeIn K cd56 "_law_take" = true)
    (k56 : PySem.W.keepIn K (.ref f56) = true)
    (a57 : PySem.W.nsIn K mainGlobals "_law_pick" = some (some (.ref f57)))
    (l57 : K.lookup f57 = some ⟨oc57, od57, .func (PySem.W.fnOf "_law_pick" "_law_pick" (defArgs s_law_pick) (defBody s_law_pick) (defScope s_law_pick) .none kV57 dc57 pm57 an57 cd57 ct57), sl57⟩)
    (c57 : PySem.W.codeIn K cd57 "_law_pick" = true)
    (k57 : PySem.W.keepIn K (.ref f57) = true)
    (a58 : PySem.W.nsIn K mainGlobals "_law_is_integer" = some (some (.ref f58)))
    (l58 : K.lookup f58 = some ⟨oc58, od58, .func (PySem.W.fnOf "_law_is_integer" "_law_is_integer" (defArgs s_law_is_integer) (defBody s_law_is_integer) (defScope s_law_is_integer) .none kV58 dc58 pm58 an58 cd58 ct58), sl58⟩)
    (c58 : PySem.W.codeIn K cd58 "_law_is_integer" = true)
    (k58 : PySem.W.keepIn K (.ref f58) = true)
    (a59 : PySem.W.nsIn K mainGlobals "_law_is_within" = some (some (.ref f59)))
    (l59 : K.lookup f59 = some ⟨oc59, od59, .func (PySem.W.fnOf "_law_is_within" "_law_is_within" (defArgs s_law_is_within) (defBody s_law_is_within) (defScope s_law_is_within) .none kV59 dc59 pm59 an59 cd59 ct59), sl59⟩)
    (c59 : PySem.W.codeIn K cd59 "_law_is_within" = true)
    (k59 : PySem.W.keepIn K (.ref f59) = true)
    (a60 : PySem.W.nsIn K mainGlobals "_law_same" = some (some (.ref f60)))
    (l60 : K.lookup f60 = some ⟨oc60, od60, .func (PySem.W.fnOf "_law_same" "_law_same" (defArgs s_law_same) (defBody s_law_same) (defScope s_law_same) .none kV60 dc60 pm60 an60 cd60 ct60), sl60⟩)
    (c60 : PySem.W.codeIn K cd60 "_law_same" = true)
    (k60 : PySem.W.keepIn K (.ref f60) = true)
    (a61 : PySem.W.nsIn K mainGlobals "_law_odd" = some (some (.ref f61)))
    (l61 : K.lookup f61 = some ⟨oc61, od61, .func (PySem.W.fnOf "_law_odd" "_law_odd" (defArgs s_law_odd) (defBody s_law_odd) (defScope s_law_odd) .none kV61 dc61 pm61 an61 cd61 ct61), sl61⟩)
    (c61 : PySem.W.codeIn K cd61 "_law_odd" = true)
    (k61 : PySem.W.keepIn K (.ref f61) = true)
    (a62 : PySem.W.nsIn K mainGlobals "_law_known" = some (some (.ref f62)))
    (l62 : K.lookup f62 = some ⟨oc62, od62, .func (PySem.W.fnOf "_law_known" "_law_known" (defArgs s_law_known) (defBody s_law_known) (defScope s_law_known) .none kV62 dc62 pm62 an62 cd62 ct62), sl62⟩)
    (c62 : PySem.W.codeIn K cd62 "_law_known" = true)
    (k62 : PySem.W.keepIn K (.ref f62) = true)
    (a63 : PySem.W.nsIn K mainGlobals "_law_taken" = some (some (.ref f63)))
    (l63 : K.lookup f63 = some ⟨oc63, od63, .func (PySem.W.fnOf "_law_taken" "_law_taken" (defArgs s_law_taken) (defBody s_law_taken) (defScope s_law_taken) .none kV63 dc63 pm63 an63 cd63 ct63), sl63⟩)
    (c63 : PySem.W.codeIn K cd63 "_law_taken" = true)
    (k63 : PySem.W.keepIn K (.ref f63) = true)
    (a64 : PySem.W.nsIn K mainGlobals "_law_first" = some (some (.ref f64)))
    (l64 : K.lookup f64 = some ⟨oc64, od64, .func (PySem.W.fnOf "_law_first" "_law_first" (defArgs s_law_first) (defBody s_law_first) (defScope s_law_first) .none kV64 dc64 pm64 an64 cd64 ct64), sl64⟩)
    (c64 : PySem.W.codeIn K cd64 "_law_first" = true)
    (k64 : PySem.W.keepIn K (.ref f64) = true)
    (a65 : PySem.W.nsIn K mainGlobals "_law_pool" = some (some (.ref f65)))
    (l65 : K.lookup f65 = some ⟨oc65, od65, .func (PySem.W.fnOf "_law_pool" "_law_pool" (defArgs s_law_pool) (defBody s_law_pool) (defScope s_law_pool) .none kV65 dc65 pm65 an65 cd65 ct65), sl65⟩)
    (c65 : PySem.W.codeIn K cd65 "_law_pool" = true)
    (k65 : PySem.W.keepIn K (.ref f65) = true)
    (a66 : PySem.W.nsIn K mainGlobals "_law_draw" = some (some (.ref f66)))
    (l66 : K.lookup f66 = some ⟨oc66, od66, .func (PySem.W.fnOf "_law_draw" "_law_draw" (defArgs s_law_draw) (defBody s_law_draw) (defScope s_law_draw) .none kV66 dc66 pm66 an66 cd66 ct66), sl66⟩)
    (c66 : PySem.W.codeIn K cd66 "_law_draw" = true)
    (k66 : PySem.W.keepIn K (.ref f66) = true)
    (a67 : PySem.W.nsIn K mainGlobals "_law_deep" = some (some (.ref f67)))
    (l67 : K.lookup f67 = some ⟨oc67, od67, .func (PySem.W.fnOf "_law_deep" "_law_deep" (defArgs s_law_deep) (defBody s_law_deep) (defScope s_law_deep) .none kV67 dc67 pm67 an67 cd67 ct67), sl67⟩)
    (c67 : PySem.W.codeIn K cd67 "_law_deep" = true)
    (k67 : PySem.W.keepIn K (.ref f67) = true)
    (a68 : PySem.W.nsIn K mainGlobals "_law_nested" = some (some (.ref f68)))
    (l68 : K.lookup f68 = some ⟨oc68, od68, .func (PySem.W.fnOf "_law_nested" "_law_nested" (defArgs s_law_nested) (defBody s_law_nested) (defScope s_law_nested) .none kV68 dc68 pm68 an68 cd68 ct68), sl68⟩)
    (c68 : PySem.W.codeIn K cd68 "_law_nested" = true)
    (k68 : PySem.W.keepIn K (.ref f68) = true)
    (a69 : PySem.W.nsIn K mainGlobals "_law_is_row" = some (some (.ref f69)))
    (l69 : K.lookup f69 = some ⟨oc69, od69, .func (PySem.W.fnOf "_law_is_row" "_law_is_row" (defArgs s_law_is_row) (defBody s_law_is_row) (defScope s_law_is_row) .none kV69 dc69 pm69 an69 cd69 ct69), sl69⟩)
    (c69 : PySem.W.codeIn K cd69 "_law_is_row" = true)
    (k69 : PySem.W.keepIn K (.ref f69) = true)
    (a70 : PySem.W.nsIn K mainGlobals "_law_call" = some (some (.ref f70)))
    (l70 : K.lookup f70 = some ⟨oc70, od70, .func (PySem.W.fnOf "_law_call" "_law_call" (defArgs s_law_call) (defBody s_law_call) (defScope s_law_call) .none kV70 dc70 pm70 an70 cd70 ct70), sl70⟩)
    (c70 : PySem.W.codeIn K cd70 "_law_call" = true)
    (k70 : PySem.W.keepIn K (.ref f70) = true)
    (a71 : PySem.W.nsIn K mainGlobals "_law_name" = some (some (.ref f71)))
    (l71 : K.lookup f71 = some ⟨oc71, od71, .func (PySem.W.fnOf "_law_name" "_law_name" (defArgs s_law_name) (defBody s_law_name) (defScope s_law_name) .none kV71 dc71 pm71 an71 cd71 ct71), sl71⟩)
    (c71 : PySem.W.codeIn K cd71 "_law_name" = true)
    (k71 : PySem.W.keepIn K (.ref f71) = true)
    (a72 : PySem.W.nsIn K mainGlobals "_law_word" = some (some (.ref f72)))
    (l72 : K.lookup f72 = some ⟨oc72, od72, .func (PySem.W.fnOf "_law_word" "_law_word" (defArgs s_law_word) (defBody s_law_word) (defScope s_law_word) .none kV72 dc72 pm72 an72 cd72 ct72), sl72⟩)
    (c72 : PySem.W.codeIn K cd72 "_law_word" = true)
    (k72 : PySem.W.keepIn K (.ref f72) = true)
    (a73 : PySem.W.nsIn K mainGlobals "_law_some" = some (some (.ref f73)))
    (l73 : K.lookup f73 = some ⟨oc73, od73, .func (PySem.W.fnOf "_law_some" "_law_some" (defArgs s_law_some) (defBody s_law_some) (defScope s_law_some) .none kV73 dc73 pm73 an73 cd73 ct73), sl73⟩)
    (c73 : PySem.W.codeIn K cd73 "_law_some" = true)
    (k73 : PySem.W.keepIn K (.ref f73) = true)
    (a74 : PySem.W.nsIn K mainGlobals "_law_due" = some (some (.ref f74)))
    (l74 : K.lookup f74 = some ⟨oc74, od74, .func (PySem.W.fnOf "_law_due" "_law_due" (defArgs s_law_due) (defBody s_law_due) (defScope s_law_due) .none kV74 dc74 pm74 an74 cd74 ct74), sl74⟩)
    (c74 : PySem.W.codeIn K cd74 "_law_due" = true)
    (k74 : PySem.W.keepIn K (.ref f74) = true)
    (a75 : PySem.W.nsIn K mainGlobals "_law_second" = some (some (.ref f75)))
    (l75 : K.lookup f75 = some ⟨oc75, od75, .func (PySem.W.fnOf "_law_second" "_law_second" (defArgs s_law_second) (defBody s_law_second) (defScope s_law_second) .none kV75 dc75 pm75 an75 cd75 ct75), sl75⟩)
    (c75 : PySem.W.codeIn K cd75 "_law_second" = true)
    (k75 : PySem.W.keepIn K (.ref f75) = true)
    (a76 : PySem.W.nsIn K mainGlobals "law" = some (some (.ref f76)))
    (l76 : K.lookup f76 = some ⟨oc76, od76, .func (PySem.W.fnOf "law" "law" (defArgs s_law) (defBody s_law) (defScope s_law) .none kV76 dc76 pm76 an76 cd76 ct76), sl76⟩)
    (c76 : PySem.W.codeIn K cd76 "law" = true)
    (k76 : PySem.W.keepIn K (.ref f76) = true) :
    ∃ fd : FuncData, (∀ (s : Shared) (v : Value), BindsTo s fd ⟨[v], []⟩ [("script", v)]) ∧ ∀ base : Heap, K.In base → base.Ns mainGlobals mg → FnOk l.prog w K mg base CX0 55 fa fd ["script"] (spLaw K) := by
  have hb : ∀ (s : Shared) (v : Value), BindsTo s (PySem.W.fnOf "law" "law" (defArgs s_law) (defBody s_law) (defScope s_law) .none kV76 dc76 pm76 an76 cd76 ct76) ⟨[v], []⟩ [("script", v)] := fun s v => .of_eq rfl
  let T : Tx K mg := {
    c_Disk := c_Disk, c_Outgoing := c_Outgoing, c_Incoming := c_Incoming, c_StreamError := c_StreamError, c_NoNumber := c_NoNumber, c_NoCut := c_NoCut, c_NoBlocks := c_NoBlocks, c_NoParcel := c_NoParcel, c_NoRow := c_NoRow, c_BadRow := c_BadRow,
    b_isinstance := PySem.W.mg_none_of X G b_isinstance,
    b_int := PySem.W.mg_none_of X G b_int,
    b_bool := PySem.W.mg_none_of X G b_bool,
    b_tuple := PySem.W.mg_none_of X G b_tuple,
    b_list := PySem.W.mg_none_of X G b_list,
    b_str := PySem.W.mg_none_of X G b_str,
    b_len := PySem.W.mg_none_of X G b_len,
    b_range := PySem.W.mg_none_of X G b_range,
    b_zip := PySem.W.mg_none_of X G b_zip,
    b_min := PySem.W.mg_none_of X G b_min,
    b_all := PySem.W.mg_none_of X G b_all,
    b_sum := PySem.W.mg_none_of X G b_sum,
    b_abs := PySem.W.mg_none_of X G b_abs,
    b_ord := PySem.W.mg_none_of X G b_ord,
    b_repr := PySem.W.mg_none_of X G b_repr,
    b_dict := PySem.W.mg_none_of X G b_dict,
    b_max := PySem.W.mg_none_of X G b_max,
    b_sorted := PySem.W.mg_none_of X G b_sorted,
    b_enumerate := PySem.W.mg_none_of X G b_enumerate,
    b_ValueError := PySem.W.mg_none_of X G b_ValueError,
    g_Disk := PySem.W.mg_of X G g_c_Disk,
    g_Outgoing := PySem.W.mg_of X G g_c_Outgoing,
    g_Incoming := PySem.W.mg_of X G g_c_Incoming,
    g_StreamError := PySem.W.mg_of X G g_c_StreamError,
    g_NoNumber := PySem.W.mg_of X G g_c_NoNumber,
    g_NoCut := PySem.W.mg_of X G g_c_NoCut,
    g_NoBlocks := PySem.W.mg_of X G g_c_NoBlocks,
    g_NoParcel := PySem.W.mg_of X G g_c_NoParcel,
    g_NoRow := PySem.W.mg_of X G g_c_NoRow,
    g_BadRow := PySem.W.mg_of X G g_c_BadRow,
    k1 := tk1, k2 := tk2, k3 := tk3, k4 := tk4, k5 := tk5, k6 := tk6, k7 := tk7, k8 := tk8, k9 := tk9, k10 := tk10, k11 := tk11, k12 := tk12, k13 := tk13, k14 := tk14, k15 := tk15, k16 := tk16, k18 := tk18, k19 := tk19, k17 := tk17,
    g_NONE := PySem.W.mg_of X G g_NONE,
    g_NO := PySem.W.mg_of X G g_NO,
    g_YES := PySem.W.mg_of X G g_YES,
    g_FROM_ZERO := PySem.W.mg_of X G g_FROM_ZERO,
    g_BELOW_ZERO := PySem.W.mg_of X G g_BELOW_ZERO,
    g_STRING := PySem.W.mg_of X G g_STRING,
    g_TUPLE := PySem.W.mg_of X G g_TUPLE,
    g_MOST_SIGNS := PySem.W.mg_of X G g_MOST_SIGNS,
    g_MOST_DEEP := PySem.W.mg_of X G g_MOST_DEEP,
    g_BYTE_LIMIT := PySem.W.mg_of X G g_BYTE_LIMIT,
    g_FIGURE_LIMIT := PySem.W.mg_of X G g_FIGURE_LIMIT,
    g_MARK_LIMIT := PySem.W.mg_of X G g_MARK_LIMIT,
    g_SEAL_LENGTH := PySem.W.mg_of X G g_SEAL_LENGTH,
    g_LEAST_SIGN := PySem.W.mg_of X G g_LEAST_SIGN,
    g_GREATEST_SIGN := PySem.W.mg_of X G g_GREATEST_SIGN,
    g_NO_SIGN := PySem.W.mg_of X G g_NO_SIGN,
    g_NUMBER_LIMIT := PySem.W.mg_of X G g_NUMBER_LIMIT,
    g_HELD_AHEAD := PySem.W.mg_of X G g_HELD_AHEAD,
    g_SIGNS := PySem.W.mg_of X G g_SIGNS,
    W_Disk := ⟨⟨w_c_Disk_pg, w_c_Disk_hd, w_c_Disk_po, w_c_Disk_sa⟩, w_c_Disk_ca, w_cg, w_ct, w_c_Disk_co, kit_bt w_c_Disk_ki rfl rfl, kit_bt w_c_Disk_kb rfl rfl, kit_bt w_c_Disk_kt rfl rfl, kit_bt w_c_Disk_kl rfl rfl, kit_bt w_c_Disk_ks rfl rfl⟩, mk_Disk := ⟨w_c_Disk_mk, w_c_Disk_kp⟩,
    W_Outgoing := ⟨⟨w_c_Outgoing_pg, w_c_Outgoing_hd, w_c_Outgoing_po, w_c_Outgoing_sa⟩, w_c_Outgoing_ca, w_cg, w_ct, w_c_Outgoing_co, kit_bt w_c_Outgoing_ki rfl rfl, kit_bt w_c_Outgoing_kb rfl rfl, kit_bt w_c_Outgoing_kt rfl rfl, kit_bt w_c_Outgoing_kl rfl rfl, kit_bt w_c_Outgoing_ks rfl rfl⟩, mk_Outgoing := ⟨w_c_Outgoing_mk, w_c_Outgoing_kp⟩,
    W_Incoming := ⟨⟨w_c_Incoming_pg, w_c_Incoming_hd, w_c_Incoming_po, w_c_Incoming_sa⟩, w_c_Incoming_ca, w_cg, w_ct, w_c_Incoming_co, kit_bt w_c_Incoming_ki rfl rfl, kit_bt w_c_Incoming_kb rfl rfl, kit_bt w_c_Incoming_kt rfl rfl, kit_bt w_c_Incoming_kl rfl rfl, kit_bt w_c_Incoming_ks rfl rfl⟩, mk_Incoming := ⟨w_c_Incoming_mk, w_c_Incoming_kp⟩,
    na_rows := w_na_rows,
    na_firm := w_na_firm,
    na_let_go := w_na_let_go,
    na_things := w_na_things,
    na_many := w_na_many,
    na_ahead := w_na_ahead,
    x_NoNumber := ⟨⟨_, _, _, _, _, _, _, _, _, _, _, _, _, _, _, x0_l, rfl⟩, x0_sa, x0_ex, x0_ty, x0_kp⟩,
    x_NoCut := ⟨⟨_, _, _, _, _, _, _, _, _, _, _, _, _, _, _, x1_l, rfl⟩, x1_sa, x1_ex, x1_ty, x1_kp⟩,
    x_NoBlocks := ⟨⟨_, _, _, _, _, _, _, _, _, _, _, _, _, _, _, x2_l, rfl⟩, x2_sa, x2_ex, x2_ty, x2_kp⟩,
    x_NoParcel := ⟨⟨_, _, _, _, _, _, _, _, _, _, _, _, _, _, _, x3_l, rfl⟩, x3_sa, x3_ex, x3_ty, x3_kp⟩,
    x_NoRow := ⟨⟨_, _, _, _, _, _, _, _, _, _, _, _, _, _, _, x4_l, rfl⟩, x4_sa, x4_ex, x4_ty, x4_kp⟩,
    x_BadRow := ⟨⟨_, _, _, _, _, _, _, _, _, _, _, _, _, _, _, x5_l, rfl⟩, x5_sa, x5_ex, x5_ty, x5_kp⟩,
    na_place := qna_place,
    e_BadRowBadRow := exm_cls x5_ex x5_is x5_ty se_BadRowBadRow,
    e_NoNumberNoNumber := exm_cls x0_ex x0_is x0_ty se_NoNumberNoNumber,
    xc_NoRow := ⟨y_c_NoRowg, y_c_NoRowk, y_c_NoRows, y_c_NoRowd, y_c_NoRowa, w_cg, w_ct, y_c_NoRowm⟩,
    xc_NoParcel := ⟨y_c_NoParcelg, y_c_NoParcelk, y_c_NoParcels, y_c_NoParceld, y_c_NoParcela, w_cg, w_ct, y_c_NoParcelm⟩,
    xc_NoCut := ⟨y_c_NoCutg, y_c_NoCutk, y_c_NoCuts, y_c_NoCutd, y_c_NoCuta, w_cg, w_ct, y_c_NoCutm⟩,
    xc_NoNumber := ⟨y_c_NoNumberg, y_c_NoNumberk, y_c_NoNumbers, y_c_NoNumberd, y_c_NoNumbera, w_cg, w_ct, y_c_NoNumberm⟩,
    xc_NoBlocks := ⟨y_c_NoBlocksg, y_c_NoBlocksk, y_c_NoBlockss, y_c_NoBlocksd, y_c_NoBlocksa, w_cg, w_ct, y_c_NoBlocksm⟩,
    q_NoRowNoParcel := kit_subN v_c_NoParcel_is v_c_NoParcel_ty uq_NoRowNoParcel vs_c_NoRow,
    q_NoRowNoCut := kit_subN v_c_NoCut_is v_c_NoCut_ty uq_NoRowNoCut vs_c_NoRow,
    q_NoRowNoNumber := kit_subN v_c_NoNumber_is v_c_NoNumber_ty uq_NoRowNoNumber vs_c_NoRow,
    q_NoRowNoBlocks := kit_subN v_c_NoBlocks_is v_c_NoBlocks_ty uq_NoRowNoBlocks vs_c_NoRow,
    q_NoParcelNoRow := kit_subN v_c_NoRow_is v_c_NoRow_ty uq_NoParcelNoRow vs_c_NoParcel,
    q_NoParcelNoCut := kit_subN v_c_NoCut_is v_c_NoCut_ty uq_NoParcelNoCut vs_c_NoParcel,
    q_NoParcelNoNumber := kit_subN v_c_NoNumber_is v_c_NoNumber_ty uq_NoParcelNoNumber vs_c_NoParcel,
    q_NoParcelNoBlocks := kit_subN v_c_NoBlocks_is v_c_NoBlocks_ty uq_NoParcelNoBlocks vs_c_NoParcel,
    q_NoCutNoRow := kit_subN v_c_NoRow_is v_c_NoRow_ty uq_NoCutNoRow vs_c_NoCut,
    q_NoCutNoParcel := kit_subN v_c_NoParcel_is v_c_NoParcel_ty uq_NoCutNoParcel vs_c_NoCut,
    q_NoCutNoNumber := kit_subN v_c_NoNumber_is v_c_NoNumber_ty uq_NoCutNoNumber vs_c_NoCut,
    q_NoCutNoBlocks := kit_subN v_c_NoBlocks_is v_c_NoBlocks_ty uq_NoCutNoBlocks vs_c_NoCut,
    q_NoNumberNoRow := kit_subN v_c_NoRow_is v_c_NoRow_ty uq_NoNumberNoRow vs_c_NoNumber,
    q_NoNumberNoParcel := kit_subN v_c_NoParcel_is v_c_NoParcel_ty uq_NoNumberNoParcel vs_c_NoNumber,
    q_NoNumberNoCut := kit_subN v_c_NoCut_is v_c_NoCut_ty uq_NoNumberNoCut vs_c_NoNumber,
    q_NoNumberNoBlocks := kit_subN v_c_NoBlocks_is v_c_NoBlocks_ty uq_NoNumberNoBlocks vs_c_NoNumber,
    q_NoBlocksNoRow := kit_subN v_c_NoRow_is v_c_NoRow_ty uq_NoBlocksNoRow vs_c_NoBlocks,
    q_NoBlocksNoParcel := kit_subN v_c_NoParcel_is v_c_NoParcel_ty uq_NoBlocksNoParcel vs_c_NoBlocks,
    q_NoBlocksNoCut := kit_subN v_c_NoCut_is v_c_NoCut_ty uq_NoBlocksNoCut vs_c_NoBlocks,
    q_NoBlocksNoNumber := kit_subN v_c_NoNumber_is v_c_NoNumber_ty uq_NoBlocksNoNumber vs_c_NoBlocks,
    q_NoRowNoRow := kit_subR v_c_NoRow_is v_c_NoRow_ty uq_NoRowNoRow,
    q_NoRowVe := kit_subT (by decide +kernel) uq_NoRowVe,
    q_NoParcelNoParcel := kit_subR v_c_NoParcel_is v_c_NoParcel_ty uq_NoParcelNoParcel,
    q_NoParcelVe := kit_subT (by decide +kernel) uq_NoParcelVe,
    q_NoCutNoCut := kit_subR v_c_NoCut_is v_c_NoCut_ty uq_NoCutNoCut,
    q_NoCutVe := kit_subT (by decide +kernel) uq_NoCutVe,
    q_NoNumberNoNumber := kit_subR v_c_NoNumber_is v_c_NoNumber_ty uq_NoNumberNoNumber,
    q_NoNumberVe := kit_subT (by decide +kernel) uq_NoNumberVe,
    q_NoBlocksNoBlocks := kit_subR v_c_NoBlocks_is v_c_NoBlocks_ty uq_NoBlocksNoBlocks,
    q_NoBlocksVe := kit_subT (by decide +kernel) uq_NoBlocksVe,
    r_NoRowStream := exm_cls wr_NoRowStream v_c_StreamError_is v_c_StreamError_ty ur_NoRowStream,
    r_NoParcelStream := exm_cls wr_NoParcelStream v_c_StreamError_is v_c_StreamError_ty ur_NoParcelStream,
    r_NoCutStream := exm_cls wr_NoCutStream v_c_StreamError_is v_c_StreamError_ty ur_NoCutStream,
    r_NoNumberStream := exm_cls wr_NoNumberStream v_c_StreamError_is v_c_StreamError_ty ur_NoNumberStream,
    r_NoBlocksStream := exm_cls wr_NoBlocksStream v_c_StreamError_is v_c_StreamError_ty ur_NoBlocksStream }
  let B : Bk K mg T := {
    wall := ⟨f0, _, fun_mk (st := s_wall) l0 c0 k0, PySem.W.mg_of X G a0, (fun_mk (st := s_wall) l0 c0 k0).binds (ps := ["k"]) fun _ _ _ _ _ _ us hl => match us, hl with | [_], _ => rfl⟩,
    NoNumber_init := ⟨f1, _, fun_mk (st := s_NoNumber_init) l1 c1 k1, a1, i1, t1, (fun_mk (st := s_NoNumber_init) l1 c1 k1).binds (ps := ["self"]) fun _ _ _ _ _ _ us hl => match us, hl with | [_], _ => rfl⟩,
    NoParcel_init := ⟨f2, _, fun_mk (st := s_NoParcel_init) l2 c2 k2, a2, i2, t2, (fun_mk (st := s_NoParcel_init) l2 c2 k2).binds (ps := ["self"]) fun _ _ _ _ _ _ us hl => match us, hl with | [_], _ => rfl⟩,
    NoRow_init := ⟨f3, _, fun_mk (st := s_NoRow_init) l3 c3 k3, a3, i3, t3, (fun_mk (st := s_NoRow_init) l3 c3 k3).binds (ps := ["self"]) fun _ _ _ _ _ _ us hl => match us, hl with | [_], _ => rfl⟩,
    BadRow_init := ⟨f4, _, fun_mk (st := s_BadRow_init) l4 c4 k4, a4, i4, t4, (fun_mk (st := s_BadRow_init) l4 c4 k4).binds (ps := ["self", "place"]) fun _ _ _ _ _ _ us hl => match us, hl with | [_, _], _ => rfl⟩,
    NoCut_init := ⟨f5, _, fun_mk (st := s_NoCut_init) l5 c5 k5, a5, i5, t5, (fun_mk (st := s_NoCut_init) l5 c5 k5).binds (ps := ["self"]) fun _ _ _ _ _ _ us hl => match us, hl with | [_], _ => rfl⟩,
    NoBlocks_init := ⟨f6, _, fun_mk (st := s_NoBlocks_init) l6 c6 k6, a6, i6, t6, (fun_mk (st := s_NoBlocks_init) l6 c6 k6).binds (ps := ["self"]) fun _ _ _ _ _ _ us hl => match us, hl with | [_], _ => rfl⟩,
    is_int := ⟨f7, _, fun_mk (st := s_is_int) l7 c7 k7, PySem.W.mg_of X G a7, (fun_mk (st := s_is_int) l7 c7 k7).binds (ps := ["thing"]) fun _ _ _ _ _ _ us hl => match us, hl with | [_], _ => rfl⟩,
    is_number := ⟨f8, _, fun_mk (st := s_is_number) l8 c8 k8, PySem.W.mg_of X G a8, (fun_mk (st := s_is_number) l8 c8 k8).binds (ps := ["thing"]) fun _ _ _ _ _ _ us hl => match us, hl with | [_], _ => rfl⟩,
    is_number_below := ⟨f9, _, fun_mk (st := s_is_number_below) l9 c9 k9, PySem.W.mg_of X G a9, (fun_mk (st := s_is_number_below) l9 c9 k9).binds (ps := ["limit", "thing"]) fun _ _ _ _ _ _ us hl => match us, hl with | [_, _], _ => rfl⟩,
    is_tuple_of := ⟨f10, _, fun_mk (st := s_is_tuple_of) l10 c10 k10, PySem.W.mg_of X G a10, (fun_mk (st := s_is_tuple_of) l10 c10 k10).binds (ps := ["many", "thing"]) fun _ _ _ _ _ _ us hl => match us, hl with | [_, _], _ => rfl⟩,
    is_link_number := ⟨f11, _, fun_mk (st := s_is_link_number) l11 c11 k11, PySem.W.mg_of X G a11, (fun_mk (st := s_is_link_number) l11 c11 k11).binds (ps := ["thing"]) fun _ _ _ _ _ _ us hl => match us, hl with | [_], _ => rfl⟩,
    Outgoing_init := ⟨f12, _, fun_mk (st := s_Outgoing_init) l12 c12 k12, a12, i12, t12, (fun_mk (st := s_Outgoing_init) l12 c12 k12).binds (ps := ["self"]) fun _ _ _ _ _ _ us hl => match us, hl with | [_], _ => rfl⟩,
    Outgoing_put := ⟨f13, _, fun_mk (st := s_Outgoing_put) l13 c13 k13, a13, i13, t13, (fun_mk (st := s_Outgoing_put) l13 c13 k13).binds (ps := ["self", "thing"]) fun _ _ _ _ _ _ us hl => match us, hl with | [_, _], _ => rfl⟩,
    Outgoing_known := ⟨f14, _, fun_mk (st := s_Outgoing_known) l14 c14 k14, a14, i14, t14, (fun_mk (st := s_Outgoing_known) l14 c14 k14).binds (ps := ["self", "number"]) fun _ _ _ _ _ _ us hl => match us, hl with | [_, _], _ => rfl⟩,
    Outgoing_waiting := ⟨f15, _, fun_mk (st := s_Outgoing_waiting) l15 c15 k15, a15, i15, t15, (fun_mk (st := s_Outgoing_waiting) l15 c15 k15).binds (ps := ["self"]) fun _ _ _ _ _ _ us hl => match us, hl with | [_], _ => rfl⟩,
    Outgoing_many_put := ⟨f16, _, fun_mk (st := s_Outgoing_many_put) l16 c16 k16, a16, i16, t16, (fun_mk (st := s_Outgoing_many_put) l16 c16 k16).binds (ps := ["self"]) fun _ _ _ _ _ _ us hl => match us, hl with | [_], _ => rfl⟩,
    Outgoing_state := ⟨f17, _, fun_mk (st := s_Outgoing_state) l17 c17 k17, a17, i17, t17, (fun_mk (st := s_Outgoing_state) l17 c17 k17).binds (ps := ["self"]) fun _ _ _ _ _ _ us hl => match us, hl with | [_], _ => rfl⟩,
    Outgoing_copy := ⟨f18, _, fun_mk (st := s_Outgoing_copy) l18 c18 k18, a18, i18, t18, (fun_mk (st := s_Outgoing_copy) l18 c18 k18).binds (ps := ["self"]) fun _ _ _ _ _ _ us hl => match us, hl with | [_], _ => rfl⟩,
    Incoming_init := ⟨f19, _, fun_mk (st := s_Incoming_init) l19 c19 k19, a19, i19, t19, (fun_mk (st := s_Incoming_init) l19 c19 k19).binds (ps := ["self"]) fun _ _ _ _ _ _ us hl => match us, hl with | [_], _ => rfl⟩,
    Incoming_take := ⟨f20, _, fun_mk (st := s_Incoming_take) l20 c20 k20, a20, i20, t20, (fun_mk (st := s_Incoming_take) l20 c20 k20).binds (ps := ["self", "number", "thing"]) fun _ _ _ _ _ _ us hl => match us, hl with | [_, _, _], _ => rfl⟩,
    Incoming_taken := ⟨f21, _, fun_mk (st := s_Incoming_taken) l21 c21 k21, a21, i21, t21, (fun_mk (st := s_Incoming_taken) l21 c21 k21).binds (ps := ["self"]) fun _ _ _ _ _ _ us hl => match us, hl with | [_], _ => rfl⟩,
    Incoming_held := ⟨f22, _, fun_mk (st := s_Incoming_held) l22 c22 k22, a22, i22, t22, (fun_mk (st := s_Incoming_held) l22 c22 k22).binds (ps := ["self"]) fun _ _ _ _ _ _ us hl => match us, hl with | [_], _ => rfl⟩,
    Incoming_state := ⟨f23, _, fun_mk (st := s_Incoming_state) l23 c23 k23, a23, i23, t23, (fun_mk (st := s_Incoming_state) l23 c23 k23).binds (ps := ["self"]) fun _ _ _ _ _ _ us hl => match us, hl with | [_], _ => rfl⟩,
    Incoming_copy := ⟨f24, _, fun_mk (st := s_Incoming_copy) l24 c24 k24, a24, i24, t24, (fun_mk (st := s_Incoming_copy) l24 c24 k24).binds (ps := ["self"]) fun _ _ _ _ _ _ us hl => match us, hl with | [_], _ => rfl⟩,
    is_byte := ⟨f25, _, fun_mk (st := s_is_byte) l25 c25 k25, PySem.W.mg_of X G a25, (fun_mk (st := s_is_byte) l25 c25 k25).binds (ps := ["thing"]) fun _ _ _ _ _ _ us hl => match us, hl with | [_], _ => rfl⟩,
    is_row := ⟨f26, _, fun_mk (st := s_is_row) l26 c26 k26, PySem.W.mg_of X G a26, (fun_mk (st := s_is_row) l26 c26 k26).binds (ps := ["thing"]) fun _ _ _ _ _ _ us hl => match us, hl with | [_], _ => rfl⟩,
    check_row := ⟨f27, _, fun_mk (st := s_check_row) l27 c27 k27, PySem.W.mg_of X G a27, (fun_mk (st := s_check_row) l27 c27 k27).binds (ps := ["row"]) fun _ _ _ _ _ _ us hl => match us, hl with | [_], _ => rfl⟩,
    is_sign := ⟨f28, _, fun_mk (st := s_is_sign) l28 c28 k28, PySem.W.mg_of X G a28, (fun_mk (st := s_is_sign) l28 c28 k28).binds (ps := ["number"]) fun _ _ _ _ _ _ us hl => match us, hl with | [_], _ => rfl⟩,
    is_parcel := ⟨f29, _, fun_mk (st := s_is_parcel) l29 c29 k29, PySem.W.mg_of X G a29, (fun_mk (st := s_is_parcel) l29 c29 k29).binds (ps := ["thing"]) fun _ _ _ _ _ _ us hl => match us, hl with | [_], _ => rfl⟩,
    is_parcel_within := ⟨f30, _, fun_mk (st := s_is_parcel_within) l30 c30 k30, PySem.W.mg_of X G a30, (fun_mk (st := s_is_parcel_within) l30 c30 k30).binds (ps := ["deep", "thing"]) fun _ _ _ _ _ _ us hl => match us, hl with | [_, _], _ => rfl⟩,
    row_of := ⟨f31, _, fun_mk (st := s_row_of) l31 c31 k31, PySem.W.mg_of X G a31, (fun_mk (st := s_row_of) l31 c31 k31).binds (ps := ["parcel"]) fun _ _ _ _ _ _ us hl => match us, hl with | [_], _ => rfl⟩,
    told := ⟨f32, _, fun_mk (st := s_told) l32 c32 k32, PySem.W.mg_of X G a32, (fun_mk (st := s_told) l32 c32 k32).binds (ps := ["parcel"]) fun _ _ _ _ _ _ us hl => match us, hl with | [_], _ => rfl⟩,
    whole := ⟨f33, _, fun_mk (st := s_whole) l33 c33 k33, PySem.W.mg_of X G a33, (fun_mk (st := s_whole) l33 c33 k33).binds (ps := ["number"]) fun _ _ _ _ _ _ us hl => match us, hl with | [_], _ => rfl⟩,
    parcel_of := ⟨f34, _, fun_mk (st := s_parcel_of) l34 c34 k34, PySem.W.mg_of X G a34, (fun_mk (st := s_parcel_of) l34 c34 k34).binds (ps := ["row"]) fun _ _ _ _ _ _ us hl => match us, hl with | [_], _ => rfl⟩,
    check_there := ⟨f35, _, fun_mk (st := s_check_there) l35 c35 k35, PySem.W.mg_of X G a35, (fun_mk (st := s_check_there) l35 c35 k35).binds (ps := ["row", "place"]) fun _ _ _ _ _ _ us hl => match us, hl with | [_, _], _ => rfl⟩,
    parcel_at := ⟨f36, _, fun_mk (st := s_parcel_at) l36 c36 k36, PySem.W.mg_of X G a36, (fun_mk (st := s_parcel_at) l36 c36 k36).binds (ps := ["row", "place", "deep"]) fun _ _ _ _ _ _ us hl => match us, hl with | [_, _, _], _ => rfl⟩,
    whole_at := ⟨f37, _, fun_mk (st := s_whole_at) l37 c37 k37, PySem.W.mg_of X G a37, (fun_mk (st := s_whole_at) l37 c37 k37).binds (ps := ["row", "place"]) fun _ _ _ _ _ _ us hl => match us, hl with | [_, _], _ => rfl⟩,
    string_at := ⟨f38, _, fun_mk (st := s_string_at) l38 c38 k38, PySem.W.mg_of X G a38, (fun_mk (st := s_string_at) l38 c38 k38).binds (ps := ["row", "place", "many"]) fun _ _ _ _ _ _ us hl => match us, hl with | [_, _, _], _ => rfl⟩,
    tuple_at := ⟨f39, _, fun_mk (st := s_tuple_at) l39 c39 k39, PySem.W.mg_of X G a39, (fun_mk (st := s_tuple_at) l39 c39 k39).binds (ps := ["row", "place", "many", "deep"]) fun _ _ _ _ _ _ us hl => match us, hl with | [_, _, _, _], _ => rfl⟩,
    mark := ⟨f40, _, fun_mk (st := s_mark) l40 c40 k40, PySem.W.mg_of X G a40, (fun_mk (st := s_mark) l40 c40 k40).binds (ps := ["row"]) fun _ _ _ _ _ _ us hl => match us, hl with | [_], _ => rfl⟩,
    mark_of := ⟨f41, _, fun_mk (st := s_mark_of) l41 c41 k41, PySem.W.mg_of X G a41, (fun_mk (st := s_mark_of) l41 c41 k41).binds (ps := ["row"]) fun _ _ _ _ _ _ us hl => match us, hl with | [_], _ => rfl⟩,
    seal_ := ⟨f42, _, fun_mk (st := s_seal_) l42 c42 k42, PySem.W.mg_of X G a42, (fun_mk (st := s_seal_) l42 c42 k42).binds (ps := ["row"]) fun _ _ _ _ _ _ us hl => match us, hl with | [_], _ => rfl⟩,
    sealed := ⟨f43, _, fun_mk (st := s_sealed) l43 c43 k43, PySem.W.mg_of X G a43, (fun_mk (st := s_sealed) l43 c43 k43).binds (ps := ["parcel"]) fun _ _ _ _ _ _ us hl => match us, hl with | [_], _ => rfl⟩,
    unsealed := ⟨f44, _, fun_mk (st := s_unsealed) l44 c44 k44, PySem.W.mg_of X G a44, (fun_mk (st := s_unsealed) l44 c44 k44).binds (ps := ["row"]) fun _ _ _ _ _ _ us hl => match us, hl with | [_], _ => rfl⟩,
    Disk_init := ⟨f45, _, fun_mk (st := s_Disk_init) l45 c45 k45, a45, i45, t45, (fun_mk (st := s_Disk_init) l45 c45 k45).binds (ps := ["self"]) fun _ _ _ _ _ _ us hl => match us, hl with | [_], _ => rfl⟩,
    Disk_write := ⟨f46, _, fun_mk (st := s_Disk_write) l46 c46 k46, a46, i46, t46, (fun_mk (st := s_Disk_write) l46 c46 k46).binds (ps := ["self", "row"]) fun _ _ _ _ _ _ us hl => match us, hl with | [_, _], _ => rfl⟩,
    Disk_sync := ⟨f47, _, fun_mk (st := s_Disk_sync) l47 c47 k47, a47, i47, t47, (fun_mk (st := s_Disk_sync) l47 c47 k47).binds (ps := ["self"]) fun _ _ _ _ _ _ us hl => match us, hl with | [_], _ => rfl⟩,
    Disk_blocks := ⟨f48, _, fun_mk (st := s_Disk_blocks) l48 c48 k48, a48, i48, t48, (fun_mk (st := s_Disk_blocks) l48 c48 k48).binds (ps := ["self"]) fun _ _ _ _ _ _ us hl => match us, hl with | [_], _ => rfl⟩,
    Disk_synced := ⟨f49, _, fun_mk (st := s_Disk_synced) l49 c49 k49, a49, i49, t49, (fun_mk (st := s_Disk_synced) l49 c49 k49).binds (ps := ["self"]) fun _ _ _ _ _ _ us hl => match us, hl with | [_], _ => rfl⟩,
    Disk_cut := ⟨f50, _, fun_mk (st := s_Disk_cut) l50 c50 k50, a50, i50, t50, (fun_mk (st := s_Disk_cut) l50 c50 k50).binds (ps := ["self", "kept"]) fun _ _ _ _ _ _ us hl => match us, hl with | [_, _], _ => rfl⟩,
    Disk_drop := ⟨f51, _, fun_mk (st := s_Disk_drop) l51 c51 k51, a51, i51, t51, (fun_mk (st := s_Disk_drop) l51 c51 k51).binds (ps := ["self", "number"]) fun _ _ _ _ _ _ us hl => match us, hl with | [_, _], _ => rfl⟩,
    Disk_copy := ⟨f52, _, fun_mk (st := s_Disk_copy) l52 c52 k52, a52, i52, t52, (fun_mk (st := s_Disk_copy) l52 c52 k52).binds (ps := ["self"]) fun _ _ _ _ _ _ us hl => match us, hl with | [_], _ => rfl⟩,
    is_cut := ⟨f53, _, fun_mk (st := s_is_cut) l53 c53 k53, PySem.W.mg_of X G a53, (fun_mk (st := s_is_cut) l53 c53 k53).binds (ps := ["waiting", "thing"]) fun _ _ _ _ _ _ us hl => match us, hl with | [_, _], _ => rfl⟩,
    kept_parcels := ⟨f54, _, fun_mk (st := s_kept_parcels) l54 c54 k54, PySem.W.mg_of X G a54, (fun_mk (st := s_kept_parcels) l54 c54 k54).binds (ps := ["blocks"]) fun _ _ _ _ _ _ us hl => match us, hl with | [_], _ => rfl⟩,
    law_hand := ⟨f55, _, fun_mk (st := s_law_hand) l55 c55 k55, PySem.W.mg_of X G a55, (fun_mk (st := s_law_hand) l55 c55 k55).binds (ps := ["script"]) fun _ _ _ _ _ _ us hl => match us, hl with | [_], _ => rfl⟩,
    law_take := ⟨f56, _, fun_mk (st := s_law_take) l56 c56 k56, PySem.W.mg_of X G a56, (fun_mk (st := s_law_take) l56 c56 k56).binds (ps := ["hand", "many"]) fun _ _ _ _ _ _ us hl => match us, hl with | [_, _], _ => rfl⟩,
    law_pick := ⟨f57, _, fun_mk (st := s_law_pick) l57 c57 k57, PySem.W.mg_of X G a57, (fun_mk (st := s_law_pick) l57 c57 k57).binds (ps := ["hand", "things"]) fun _ _ _ _ _ _ us hl => match us, hl with | [_, _], _ => rfl⟩,
    law_is_integer := ⟨f58, _, fun_mk (st := s_law_is_integer) l58 c58 k58, PySem.W.mg_of X G a58, (fun_mk (st := s_law_is_integer) l58 c58 k58).binds (ps := ["thing"]) fun _ _ _ _ _ _ us hl => match us, hl with | [_], _ => rfl⟩,
    law_is_within := ⟨f59, _, fun_mk (st := s_law_is_within) l59 c59 k59, PySem.W.mg_of X G a59, (fun_mk (st := s_law_is_within) l59 c59 k59).binds (ps := ["thing", "least", "most"]) fun _ _ _ _ _ _ us hl => match us, hl with | [_, _, _], _ => rfl⟩,
    law_same := ⟨f60, _, fun_mk (st := s_law_same) l60 c60 k60, PySem.W.mg_of X G a60, (fun_mk (st := s_law_same) l60 c60 k60).binds (ps := ["actual", "due"]) fun _ _ _ _ _ _ us hl => match us, hl with | [_, _], _ => rfl⟩,
    law_odd := ⟨f61, _, fun_mk (st := s_law_odd) l61 c61 k61, PySem.W.mg_of X G a61, (fun_mk (st := s_law_odd) l61 c61 k61).binds (ps := ["hand"]) fun _ _ _ _ _ _ us hl => match us, hl with | [_], _ => rfl⟩,
    law_known := ⟨f62, _, fun_mk (st := s_law_known) l62 c62 k62, PySem.W.mg_of X G a62, (fun_mk (st := s_law_known) l62 c62 k62).binds (ps := ["out", "number"]) fun _ _ _ _ _ _ us hl => match us, hl with | [_, _], _ => rfl⟩,
    law_taken := ⟨f63, _, fun_mk (st := s_law_taken) l63 c63 k63, PySem.W.mg_of X G a63, (fun_mk (st := s_law_taken) l63 c63 k63).binds (ps := ["end", "number"]) fun _ _ _ _ _ _ us hl => match us, hl with | [_, _], _ => rfl⟩,
    law_first := ⟨f64, _, fun_mk (st := s_law_first) l64 c64 k64, PySem.W.mg_of X G a64, (fun_mk (st := s_law_first) l64 c64 k64).binds (ps := ["script"]) fun _ _ _ _ _ _ us hl => match us, hl with | [_], _ => rfl⟩,
    law_pool := ⟨f65, _, fun_mk (st := s_law_pool) l65 c65 k65, PySem.W.mg_of X G a65, (fun_mk (st := s_law_pool) l65 c65 k65).binds (ps := ["script"]) fun _ _ _ _ _ _ us hl => match us, hl with | [_], _ => rfl⟩,
    law_draw := ⟨f66, _, fun_mk (st := s_law_draw) l66 c66 k66, PySem.W.mg_of X G a66, (fun_mk (st := s_law_draw) l66 c66 k66).binds (ps := ["pool", "many"]) fun _ _ _ _ _ _ us hl => match us, hl with | [_, _], _ => rfl⟩,
    law_deep := ⟨f67, _, fun_mk (st := s_law_deep) l67 c67 k67, PySem.W.mg_of X G a67, (fun_mk (st := s_law_deep) l67 c67 k67).binds (ps := []) fun _ _ _ _ _ _ us hl => match us, hl with | [], _ => rfl⟩,
    law_nested := ⟨f68, _, fun_mk (st := s_law_nested) l68 c68 k68, PySem.W.mg_of X G a68, (fun_mk (st := s_law_nested) l68 c68 k68).binds (ps := ["many", "inner"]) fun _ _ _ _ _ _ us hl => match us, hl with | [_, _], _ => rfl⟩,
    law_is_row := ⟨f69, _, fun_mk (st := s_law_is_row) l69 c69 k69, PySem.W.mg_of X G a69, (fun_mk (st := s_law_is_row) l69 c69 k69).binds (ps := ["thing"]) fun _ _ _ _ _ _ us hl => match us, hl with | [_], _ => rfl⟩,
    law_call := ⟨f70, _, fun_mk (st := s_law_call) l70 c70 k70, PySem.W.mg_of X G a70, (fun_mk (st := s_law_call) l70 c70 k70).binds (ps := ["which", "disk", "thing"]) fun _ _ _ _ _ _ us hl => match us, hl with | [_, _, _], _ => rfl⟩,
    law_name := ⟨f71, _, fun_mk (st := s_law_name) l71 c71 k71, PySem.W.mg_of X G a71, (fun_mk (st := s_law_name) l71 c71 k71).binds (ps := ["error"]) fun _ _ _ _ _ _ us hl => match us, hl with | [_], _ => rfl⟩,
    law_word := ⟨f72, _, fun_mk (st := s_law_word) l72 c72 k72, PySem.W.mg_of X G a72, (fun_mk (st := s_law_word) l72 c72 k72).binds (ps := ["which", "disk", "thing"]) fun _ _ _ _ _ _ us hl => match us, hl with | [_, _, _], _ => rfl⟩,
    law_some := ⟨f73, _, fun_mk (st := s_law_some) l73 c73 k73, PySem.W.mg_of X G a73, (fun_mk (st := s_law_some) l73 c73 k73).binds (ps := ["pool"]) fun _ _ _ _ _ _ us hl => match us, hl with | [_], _ => rfl⟩,
    law_due := ⟨f74, _, fun_mk (st := s_law_due) l74 c74 k74, PySem.W.mg_of X G a74, (fun_mk (st := s_law_due) l74 c74 k74).binds (ps := ["which", "blocks", "synced", "thing"]) fun _ _ _ _ _ _ us hl => match us, hl with | [_, _, _, _], _ => rfl⟩,
    law_second := ⟨f75, _, fun_mk (st := s_law_second) l75 c75 k75, PySem.W.mg_of X G a75, (fun_mk (st := s_law_second) l75 c75 k75).binds (ps := ["script"]) fun _ _ _ _ _ _ us hl => match us, hl with | [_], _ => rfl⟩,
    law := ⟨f76, _, fun_mk (st := s_law) l76 c76 k76, PySem.W.mg_of X G a76, (fun_mk (st := s_law) l76 c76 k76).binds (ps := ["script"]) fun _ _ _ _ _ _ us hl => match us, hl with | [_], _ => rfl⟩ }
  exact fin_of T B hfa hb
theorem walk {l : PySem.W.OpenLaw} {q : Program} {loose : List Str} {XP : (Str → Option Value) → Heap → Prop} {YP : World → Heap → Prop} {d : DefRec} {K : Params → PySem.W.Frag} (hn : l.most = some 63) (hdf : d.params.defaults = [])
    (hY : ∀ (w : World) (h : Heap), YP w h → (K w.params).In h)
    (F : ∀ (w : World) (mg : Str → Option Value) (fa : Addr) (h : Heap), (K w.params).In h → h.Ns mainGlobals mg → mg d.name = some (.ref fa) →
      ∃ fd : FuncData, (∀ (s : Shared) (u : Value), BindsTo s fd ⟨[u], []⟩ [("script", u)]) ∧ ∀ base : Heap, (K w.params).In base → base.Ns mainGlobals mg → FnOk l.prog w (K w.params) mg base CX0 55 fa fd ["script"] (spLaw (K w.params))) :
    PySem.W.WalkO q loose XP YP l.row.toRowW d [] (fun f vs => PySem.call f vs) :=
  L2.walk_of (n := 63) (k := 55) (x := "script") (CX := fun _ => CX0) (sp := fun w => spLaw (K w.params)) hn (by decide) hdf ⟨rfl, by decide, by decide⟩ hY F (fun _ _ a ns hl _ hS => ⟨a, ns, rfl, hS, fun _ => rfl⟩) fun _ _ _ _ _ z => z
end Mw

/-! Z2 -/
open PySem PySem.W PyProof.Rows in
set_option maxRecDepth 100000 in
set_option maxHeartbeats 0 in
theorem PySem.Challenge.cw_moststream_k31_links_rows_and_disks_refu_holds : PySem.Challenge.rw_moststream_k31_links_rows_and_disks_refu.Holds := by
  w_on; o_law; k_head; (case hw => w_witness2)
  k_fill
  refine Mw.walk (l := PySem.Challenge.rw_moststream_k31_links_rows_and_disks_refu) rfl rfl (fun w h Y => PySem.W.kIn_of Y) ?F
  case F =>
    intro w mg fa h KX G hmg
    refine' Mw.all_mk KX G hmg ?g_c_Disk ?g_c_Outgoing ?g_c_Incoming ?g_c_StreamError ?g_c_NoNumber ?g_c_NoCut ?g_c_NoBlocks ?g_c_NoParcel ?g_c_NoRow ?g_c_BadRow ?g_NONE ?g_NO ?g_YES ?g_FROM_ZERO ?g_BELOW_ZERO ?g_STRING ?g_TUPLE ?g_MOST_SIGNS ?g_MOST_DEEP ?g_BYTE_LIMIT ?g_FIGURE_LIMIT ?g_MARK_LIMIT ?g_SEAL_LENGTH ?g_LEAST_SIGN ?g_GREATEST_SIGN ?g_NO_SIGN ?g_NUMBER_LIMIT ?g_HELD_AHEAD ?g_SIGNS ?b_isinstance ?b_int ?b_bool ?b_tuple ?b_list ?b_str ?b_len ?b_range ?b_zip ?b_min ?b_all ?b_sum ?b_abs ?b_ord ?b_repr ?b_dict ?b_max ?b_sorted ?b_enumerate ?b_ValueError ?w_c_Disk_pg ?w_c_Disk_hd ?w_c_Disk_po ?w_c_Disk_sa ?w_c_Disk_ca ?w_c_Disk_co ?w_c_Disk_ki ?w_c_Disk_kb ?w_c_Disk_kt ?w_c_Disk_kl ?w_c_Disk_ks ?w_c_Disk_is ?w_c_Disk_ty ?w_c_Disk_mk ?w_c_Disk_kp ?w_c_Outgoing_pg ?w_c_Outgoing_hd ?w_c_Outgoing_po ?w_c_Outgoing_sa ?w_c_Outgoing_ca ?w_c_Outgoing_co ?w_c_Outgoing_ki ?w_c_Outgoing_kb ?w_c_Outgoing_kt ?w_c_Outgoing_kl ?w_c_Outgoing_ks ?w_c_Outgoing_is ?w_c_Outgoing_ty ?w_c_Outgoing_mk ?w_c_Outgoing_kp ?w_c_Incoming_pg ?w_c_Incoming_hd ?w_c_Incoming_po ?w_c_Incoming_sa ?w_c_Incoming_ca ?w_c_Incoming_co ?w_c_Incoming_ki ?w_c_Incoming_kb ?w_c_Incoming_kt ?w_c_Incoming_kl ?w_c_Incoming_ks ?w_c_Incoming_is ?w_c_Incoming_ty ?w_c_Incoming_mk ?w_c_Incoming_kp ?w_cg ?w_ct ?w_na_rows ?w_na_firm ?w_na_let_go ?w_na_things ?w_na_many ?w_na_ahead ?x0_l ?x0_sa ?x0_ex ?x0_ty ?x0_kp ?x0_is ?x1_l ?x1_sa ?x1_ex ?x1_ty ?x1_kp ?x1_is ?x2_l ?x2_sa ?x2_ex ?x2_ty ?x2_kp ?x2_is ?x3_l ?x3_sa ?x3_ex ?x3_ty ?x3_kp ?x3_is ?x4_l ?x4_sa ?x4_ex ?x4_ty ?x4_kp ?x4_is ?x5_l ?x5_sa ?x5_ex ?x5_ty ?x5_kp ?x5_is ?qna_place ?se_BadRowBadRow ?se_NoNumberNoNumber ?y_c_NoRowg ?y_c_NoRowk ?y_c_NoRows ?y_c_NoRowd ?y_c_NoRowa ?y_c_NoRowm ?y_c_NoParcelg ?y_c_NoParcelk ?y_c_NoParcels ?y_c_NoParceld ?y_c_NoParcela ?y_c_NoParcelm ?y_c_NoCutg ?y_c_NoCutk ?y_c_NoCuts ?y_c_NoCutd ?y_c_NoCuta ?y_c_NoCutm ?y_c_NoNumberg ?y_c_NoNumberk ?y_c_NoNumbers ?y_c_NoNumberd ?y_c_NoNumbera ?y_c_NoNumberm ?y_c_NoBlocksg ?y_c_NoBlocksk ?y_c_NoBlockss ?y_c_NoBlocksd ?y_c_NoBlocksa ?y_c_NoBlocksm ?v_c_NoParcel_is ?v_c_NoParcel_ty ?vs_c_NoRow ?uq_NoRowNoParcel ?v_c_NoCut_is ?v_c_NoCut_ty ?uq_NoRowNoCut ?v_c_NoNumber_is ?v_c_NoNumber_ty ?uq_NoRowNoNumber ?v_c_NoBlocks_is ?v_c_NoBlocks_ty ?uq_NoRowNoBlocks ?v_c_NoRow_is ?v_c_NoRow_ty ?vs_c_NoParcel ?uq_NoParcelNoRow ?uq_NoParcelNoCut ?uq_NoParcelNoNumber ?uq_NoParcelNoBlocks ?vs_c_NoCut ?uq_NoCutNoRow ?uq_NoCutNoParcel ?uq_NoCutNoNumber ?uq_NoCutNoBlocks ?vs_c_NoNumber ?uq_NoNumberNoRow ?uq_NoNumberNoParcel ?uq_NoNumberNoCut ?uq_NoNumberNoBlocks ?vs_c_NoBlocks ?uq_NoBlocksNoRow ?uq_NoBlocksNoParcel ?uq_NoBlocksNoCut ?uq_NoBlocksNoNumber ?uq_NoRowNoRow ?uq_NoRowVe ?uq_NoParcelNoParcel ?uq_NoParcelVe ?uq_NoCutNoCut ?uq_NoCutVe ?uq_NoNumberNoNumber ?uq_NoNumberVe ?uq_NoBlocksNoBlocks ?uq_NoBlocksVe ?v_c_StreamError_is ?v_c_StreamError_ty ?wr_NoRowStream ?ur_NoRowStream ?wr_NoParcelStream ?ur_NoParcelStream ?wr_NoCutStream ?ur_NoCutStream ?wr_NoNumberStream ?ur_NoNumberStream ?wr_NoBlocksStream ?ur_NoBlocksStream ?a0 ?l0 ?c0 ?k0 ?a1 ?i1 ?t1 ?l1 ?c1 ?k1 ?a2 ?i2 ?t2 ?l2 ?c2 ?k2 ?a3 ?i3 ?t3 ?l3 ?c3 ?k3 ?a4 ?i4 ?t4 ?l4 ?c4 ?k4 ?a5 ?i5 ?t5 ?l5 ?c5 ?k5 ?a6 ?i6 ?t6 ?l6 ?c6 ?k6 ?a7 ?l7 ?c7 ?k7 ?a8 ?l8 ?c8 ?k8 ?a9 ?l9 ?c9 ?k9 ?a10 ?l10 ?c10 ?k10 ?a11 ?l11 ?c11 ?k11 ?a12 ?i12 ?t12 ?l12 ?c12 ?k12 ?a13 ?i13 ?t13 ?l13 ?c13 ?k13 ?a14 ?i14 ?t14 ?l14 ?c14 ?k14 ?a15 ?i15 ?t15 ?l15 ?c15 ?k15 ?a16 ?i16 ?t16 ?l16 ?c16 ?k16 ?a17 ?i17 ?t17 ?l17 ?c17 ?k17 ?a18 ?i18 ?t18 ?l18 ?c18 ?k18 ?a19 ?i19 ?t19 ?l19 ?c19 ?k19 ?a20 ?i20 ?t20 ?l20 ?c20 ?k20 ?a21 ?i21 ?t21 ?l21 ?c21 ?k21 ?a22 ?i22 ?t22 ?l22 ?c22 ?k22 ?a23 ?i23 ?t23 ?l23 ?c23 ?k23 ?a24 ?i24 ?t24 ?l24 ?c24 ?k24 ?a25 ?l25 ?c25 ?k25 ?a26 ?l26 ?c26 ?k26 ?a27 ?l27 ?c27 ?k27 ?a28 ?l28 ?c28 ?k28 ?a29 ?l29 ?c29 ?k29 ?a30 ?l30 ?c30 ?k30 ?a31 ?l31 ?c31 ?k31 ?a32 ?l32 ?c32 ?k32 ?a33 ?l33 ?c33 ?k33 ?a34 ?l34 ?c34 ?k34 ?a35 ?l35 ?c35 ?k35 ?a36 ?l36 ?c36 ?k36 ?a37 ?l37 ?c37 ?k37 ?a38 ?l38 ?c38 ?k38 ?a39 ?l39 ?c39 ?k39 ?a40 ?l40 ?c40 ?k40 ?a41 ?l41 ?c41 ?k41 ?a42 ?l42 ?c42 ?k42 ?a43 ?l43 ?c43 ?k43 ?a44 ?l44 ?c44 ?k44 ?a45 ?i45 ?t45 ?l45 ?c45 ?k45 ?a46 ?i46 ?t46 ?l46 ?c46 ?k46 ?a47 ?i47 ?t47 ?l47 ?c47 ?k47 ?a48 ?i48 ?t48 ?l48 ?c48 ?k48 ?a49 ?i49 ?t49 ?l49 ?c49 ?k49 ?a50 ?i50 ?t50 ?l50 ?c50 ?k50 ?a51 ?i51 ?t51 ?l51 ?c51 ?k51 ?a52 ?i52 ?t52 ?l52 ?c52 ?k52 ?a53 ?l53 ?c53 ?k53 ?a54 ?l54 ?c54 ?k54 ?a55 ?l55 ?c55 ?k55 ?a56 ?l56 ?c56 ?k56 ?a57 ?l57 ?c57 ?k57 ?a58 ?l58 ?c58 ?k58 ?a59 ?l59 ?c59 ?k59 ?a60 ?l60 ?c60 ?k60 ?a61 ?l61 ?c61 ?k61 ?a62 ?l62 ?c62 ?k62 ?a63 ?l63 ?c63 ?k63 ?a64 ?l64 ?c64 ?k64 ?a65 ?l65 ?c65 ?k65 ?a66 ?l66 ?c66 ?k66 ?a67 ?l67 ?c67 ?k67 ?a68 ?l68 ?c68 ?k68 ?a69 ?l69 ?c69 ?k69 ?a70 ?l70 ?c70 ?k70 ?a71 ?l71 ?c71 ?k71 ?a72 ?l72 ?c72 ?k72 ?a73 ?l73 ?c73 ?k73 ?a74 ?l74 ?c74 ?k74 ?a75 ?l75 ?c75 ?k75 ?a76 ?l76 ?c76 ?k76
    (case g_c_Disk => k_is)
    (case g_c_Outgoing => k_is)
    (case g_c_Incoming => k_is)
    (case g_c_StreamError => k_is)
    (case g_c_NoNumber => k_is)
    (case g_c_NoCut => k_is)
    (case g_c_NoBlocks => k_is)
    (case g_c_NoParcel => k_is)
    (case g_c_NoRow => k_is)
    (case g_c_BadRow => k_is)
    (case g_NONE => k_is)
    (case g_NO => k_is)
    (case g_YES => k_is)
    (case g_FROM_ZERO => k_is)
    (case g_BELOW_ZERO => k_is)
    (case g_STRING => k_is)
    (case g_TUPLE => k_is)
    (case g_MOST_SIGNS => k_is)
    (case g_MOST_DEEP => k_is)
    (case g_BYTE_LIMIT => k_is)
    (case g_FIGURE_LIMIT => k_is)
    (case g_MARK_LIMIT => k_is)
    (case g_SEAL_LENGTH => k_is)
    (case g_LEAST_SIGN => k_is)
    (case g_GREATEST_SIGN => k_is)
    (case g_NO_SIGN => k_is)
    (case g_NUMBER_LIMIT => k_is)
    (case g_HELD_AHEAD => k_is)
    (case g_SIGNS => k_is)
    (case b_isinstance => k_is)
    (case b_int => k_is)
    (case b_bool => k_is)
    (case b_tuple => k_is)
    (case b_list => k_is)
    (case b_str => k_is)
    (case b_len => k_is)
    (case b_range => k_is)
    (case b_zip => k_is)
    (case b_min => k_is)
    (case b_all => k_is)
    (case b_sum => k_is)
    (case b_abs => k_is)
    (case b_ord => k_is)
    (case b_repr => k_is)
    (case b_dict => k_is)
    (case b_max => k_is)
    (case b_sorted => k_is)
    (case b_enumerate => k_is)
    (case b_ValueError => k_is)
    (case w_c_Disk_pg => k_is)
    (case w_c_Disk_hd => k_is)
    (case w_c_Disk_po => k_is)
    (case w_c_Disk_sa => k_is)
    (case w_c_Disk_ca => k_is)
    (case w_c_Disk_co => k_is)
    (case w_c_Disk_ki => k_is)
    (case w_c_Disk_kb => k_is)
    (case w_c_Disk_kt => k_is)
    (case w_c_Disk_kl => k_is)
    (case w_c_Disk_ks => k_is)
    (case w_c_Disk_is => k_is)
    (case w_c_Disk_ty => k_is)
    (case w_c_Disk_mk => k_is)
    (case w_c_Disk_kp => k_is)
    (case w_c_Outgoing_pg => k_is)
    (case w_c_Outgoing_hd => k_is)
    (case w_c_Outgoing_po => k_is)
    (case w_c_Outgoing_sa => k_is)
    (case w_c_Outgoing_ca => k_is)
    (case w_c_Outgoing_co => k_is)
    (case w_c_Outgoing_ki => k_is)
    (case w_c_Outgoing_kb => k_is)
    (case w_c_Outgoing_kt => k_is)
    (case w_c_Outgoing_kl => k_is)
    (case w_c_Outgoing_ks => k_is)
    (case w_c_Outgoing_is => k_is)
    (case w_c_Outgoing_ty => k_is)
    (case w_c_Outgoing_mk => k_is)
    (case w_c_Outgoing_kp => k_is)
    (case w_c_Incoming_pg => k_is)
    (case w_c_Incoming_hd => k_is)
    (case w_c_Incoming_po => k_is)
    (case w_c_Incoming_sa => k_is)
    (case w_c_Incoming_ca => k_is)
    (case w_c_Incoming_co => k_is)
    (case w_c_Incoming_ki => k_is)
    (case w_c_Incoming_kb => k_is)
    (case w_c_Incoming_kt => k_is)
    (case w_c_Incoming_kl => k_is)
    (case w_c_Incoming_ks => k_is)
    (case w_c_Incoming_is => k_is)
    (case w_c_Incoming_ty => k_is)
    (case w_c_Incoming_mk => k_is)
    (case w_c_Incoming_kp => k_is)
    (case w_cg => k_is)
    (case w_ct => k_is)
    (case w_na_rows => k_is)
    (case w_na_firm => k_is)
    (case w_na_let_go => k_is)
    (case w_na_things => k_is)
    (case w_na_many => k_is)
    (case w_na_ahead => k_is)
    (case x0_l => k_is)
    (case x0_sa => k_is)
    (case x0_ex => k_is)
    (case x0_ty => k_is)
    (case x0_kp => k_is)
    (case x0_is => k_is)
    (case x1_l => k_is)
    (case x1_sa => k_is)
    (case x1_ex => k_is)
    (case x1_ty => k_is)
    (case x1_kp => k_is)
    (case x1_is => k_is)
    (case x2_l => k_is)
    (case x2_sa => k_is)
    (case x2_ex => k_is)
    (case x2_ty => k_is)
    (case x2_kp => k_is)
    (case x2_is => k_is)
    (case x3_l => k_is)
    (case x3_sa => k_is)
    (case x3_ex => k_is)
    (case x3_ty => k_is)
    (case x3_kp => k_is)
    (case x3_is => k_is)
    (case x4_l => k_is)
    (case x4_sa => k_is)
    (case x4_ex => k_is)
    (case x4_ty => k_is)
    (case x4_kp => k_is)
    (case x4_is => k_is)
    (case x5_l => k_is)
    (case x5_sa => k_is)
    (case x5_ex => k_is)
    (case x5_ty => k_is)
    (case x5_kp => k_is)
    (case x5_is => k_is)
    (case qna_place => k_is)
    (case se_BadRowBadRow => k_is)
    (case se_NoNumberNoNumber => k_is)
    (case y_c_NoRowg => k_is)
    (case y_c_NoRowk => k_is)
    (case y_c_NoRows => k_is)
    (case y_c_NoRowd => k_is)
    (case y_c_NoRowa => k_is)
    (case y_c_NoRowm => k_is)
    (case y_c_NoParcelg => k_is)
    (case y_c_NoParcelk => k_is)
    (case y_c_NoParcels => k_is)
    (case y_c_NoParceld => k_is)
    (case y_c_NoParcela => k_is)
    (case y_c_NoParcelm => k_is)
    (case y_c_NoCutg => k_is)
    (case y_c_NoCutk => k_is)
    (case y_c_NoCuts => k_is)
    (case y_c_NoCutd => k_is)
    (case y_c_NoCuta => k_is)
    (case y_c_NoCutm => k_is)
    (case y_c_NoNumberg => k_is)
    (case y_c_NoNumberk => k_is)
    (case y_c_NoNumbers => k_is)
    (case y_c_NoNumberd => k_is)
    (case y_c_NoNumbera => k_is)
    (case y_c_NoNumberm => k_is)
    (case y_c_NoBlocksg => k_is)
    (case y_c_NoBlocksk => k_is)
    (case y_c_NoBlockss => k_is)
    (case y_c_NoBlocksd => k_is)
    (case y_c_NoBlocksa => k_is)
    (case y_c_NoBlocksm => k_is)
    (case v_c_NoParcel_is => k_is)
    (case v_c_NoParcel_ty => k_is)
    (case vs_c_NoRow => k_is)
    (case uq_NoRowNoParcel => k_is)
    (case v_c_NoCut_is => k_is)
    (case v_c_NoCut_ty => k_is)
    (case uq_NoRowNoCut => k_is)
    (case v_c_NoNumber_is => k_is)
    (case v_c_NoNumber_ty => k_is)
    (case uq_NoRowNoNumber => k_is)
    (case v_c_NoBlocks_is => k_is)
    (case v_c_NoBlocks_ty => k_is)
    (case uq_NoRowNoBlocks => k_is)
    (case v_c_NoRow_is => k_is)
    (case v_c_NoRow_ty => k_is)
    (case vs_c_NoParcel => k_is)
    (case uq_NoParcelNoRow => k_is)
    (case uq_NoParcelNoCut => k_is)
    (case uq_NoParcelNoNumber => k_is)
    (case uq_NoParcelNoBlocks => k_is)
    (case vs_c_NoCut => k_is)
    (case uq_NoCutNoRow => k_is)
    (case uq_NoCutNoParcel => k_is)
    (case uq_NoCutNoNumber => k_is)
    (case uq_NoCutNoBlocks => k_is)
    (case vs_c_NoNumber => k_is)
    (case uq_NoNumberNoRow => k_is)
    (case uq_NoNumberNoParcel => k_is)
    (case uq_NoNumberNoCut => k_is)
    (case uq_NoNumberNoBlocks => k_is)
    (case vs_c_NoBlocks => k_is)
    (case uq_NoBlocksNoRow => k_is)
    (case uq_NoBlocksNoParcel => k_is)
    (case uq_NoBlocksNoCut => k_is)
    (case uq_NoBlocksNoNumber => k_is)
    (case uq_NoRowNoRow => k_is)
    (case uq_NoRowVe => k_is)
    (case uq_NoParcelNoParcel => k_is)
    (case uq_NoParcelVe => k_is)
    (case uq_NoCutNoCut => k_is)
    (case uq_NoCutVe => k_is)
    (case uq_NoNumberNoNumber => k_is)
    (case uq_NoNumberVe => k_is)
    (case uq_NoBlocksNoBlocks => k_is)
    (case uq_NoBlocksVe => k_is)
    (case v_c_StreamError_is => k_is)
    (case v_c_StreamError_ty => k_is)
    (case wr_NoRowStream => k_is)
    (case ur_NoRowStream => k_is)
    (case wr_NoParcelStream => k_is)
    (case ur_NoParcelStream => k_is)
    (case wr_NoCutStream => k_is)
    (case ur_NoCutStream => k_is)
    (case wr_NoNumberStream => k_is)
    (case ur_NoNumberStream => k_is)
    (case wr_NoBlocksStream => k_is)
    (case ur_NoBlocksStream => k_is)
    (case a0 => k_is)
    (case l0 => k_is)
    (case c0 => k_is)
    (case k0 => k_is)
    (case a1 => k_is)
    (case i1 => k_is)
    (case t1 => k_is)
    (case l1 => k_is)
    (case c1 => k_is)
    (case k1 => k_is)
    (case a2 => k_is)
    (case i2 => k_is)
    (case t2 => k_is)
    (case l2 => k_is)
    (case c2 => k_is)
    (case k2 => k_is)
    (case a3 => k_is)
    (case i3 => k_is)
    (case t3 => k_is)
    (case l3 => k_is)
    (case c3 => k_is)
    (case k3 => k_is)
    (case a4 => k_is)
    (case i4 => k_is)
    (case t4 => k_is)
    (case l4 => k_is)
    (case c4 => k_is)
    (case k4 => k_is)
    (case a5 => k_is)
    (case i5 => k_is)
    (case t5 => k_is)
    (case l5 => k_is)
    (case c5 => k_is)
    (case k5 => k_is)
    (case a6 => k_is)
    (case i6 => k_is)
    (case t6 => k_is)
    (case l6 => k_is)
    (case c6 => k_is)
    (case k6 => k_is)
    (case a7 => k_is)
    (case l7 => k_is)
    (case c7 => k_is)
    (case k7 => k_is)
    (case a8 => k_is)
    (case l8 => k_is)
    (case c8 => k_is)
    (case k8 => k_is)
    (case a9 => k_is)
    (case l9 => k_is)
    (case c9 => k_is)
    (case k9 => k_is)
    (case a10 => k_is)
    (case l10 => k_is)
    (case c10 => k_is)
    (case k10 => k_is)
    (case a11 => k_is)
    (case l11 => k_is)
    (case c11 => k_is)
    (case k11 => k_is)
    (case a12 => k_is)
    (case i12 => k_is)
    (case t12 => k_is)
    (case l12 => k_is)
    (case c12 => k_is)
    (case k12 => k_is)
    (case a13 => k_is)
    (case i13 => k_is)
    (case t13 => k_is)
    (case l13 => k_is)
    (case c13 => k_is)
    (case k13 => k_is)
    (case a14 => k_is)
    (case i14 => k_is)
    (case t14 => k_is)
    (case l14 => k_is)
    (case c14 => k_is)
    (case k14 => k_is)
    (case a15 => k_is)
    (case i15 => k_is)
    (case t15 => k_is)
    (case l15 => k_is)
    (case c15 => k_is)
    (case k15 => k_is)
    (case a16 => k_is)
    (case i16 => k_is)
    (case t16 => k_is)
    (case l16 => k_is)
    (case c16 => k_is)
    (case k16 => k_is)
    (case a17 => k_is)
    (case i17 => k_is)
    (case t17 => k_is)
    (case l17 => k_is)
    (case c17 => k_is)
    (case k17 => k_is)
    (case a18 => k_is)
    (case i18 => k_is)
    (case t18 => k_is)
    (case l18 => k_is)
    (case c18 => k_is)
    (case k18 => k_is)
    (case a19 => k_is)
    (case i19 => k_is)
    (case t19 => k_is)
    (case l19 => k_is)
    (case c19 => k_is)
    (case k19 => k_is)
    (case a20 => k_is)
    (case i20 => k_is)
    (case t20 => k_is)
    (case l20 => k_is)
    (case c20 => k_is)
    (case k20 => k_is)
    (case a21 => k_is)
    (case i21 => k_is)
    (case t21 => k_is)
    (case l21 => k_is)
    (case c21 => k_is)
    (case k21 => k_is)
    (case a22 => k_is)
    (case i22 => k_is)
    (case t22 => k_is)
    (case l22 => k_is)
    (case c22 => k_is)
    (case k22 => k_is)
    (case a23 => k_is)
    (case i23 => k_is)
    (case t23 => k_is)
    (case l23 => k_is)
    (case c23 => k_is)
    (case k23 => k_is)
    (case a24 => k_is)
    (case i24 => k_is)
    (case t24 => k_is)
    (case l24 => k_is)
    (case c24 => k_is)
    (case k24 => k_is)
    (case a25 => k_is)
    (case l25 => k_is)
    (case c25 => k_is)
    (case k25 => k_is)
    (case a26 => k_is)
    (case l26 => k_is)
    (case c26 => k_is)
    (case k26 => k_is)
    (case a27 => k_is)
    (case l27 => k_is)
    (case c27 => k_is)
    (case k27 => k_is)
    (case a28 => k_is)
    (case l28 => k_is)
    (case c28 => k_is)
    (case k28 => k_is)
    (case a29 => k_is)
    (case l29 => k_is)
    (case c29 => k_is)
    (case k29 => k_is)
    (case a30 => k_is)
    (case l30 => k_is)
    (case c30 => k_is)
    (case k30 => k_is)
    (case a31 => k_is)
    (case l31 => k_is)
    (case c31 => k_is)
    (case k31 => k_is)
    (case a32 => k_is)
    (case l32 => k_is)
    (case c32 => k_is)
    (case k32 => k_is)
    (case a33 => k_is)
    (case l33 => k_is)
    (case c33 => k_is)
    (case k33 => k_is)
    (case a34 => k_is)
    (case l34 => k_is)
    (case c34 => k_is)
    (case k34 => k_is)
    (case a35 => k_is)
    (case l35 => k_is)
    (case c35 => k_is)
    (case k35 => k_is)
    (case a36 => k_is)
    (case l36 => k_is)
    (case c36 => k_is)
    (case k36 => k_is)
    (case a37 => k_is)
    (case l37 => k_is)
    (case c37 => k_is)
    (case k37 => k_is)
    (case a38 => k_is)
    (case l38 => k_is)
    (case c38 => k_is)
    (case k38 => k_is)
    (case a39 => k_is)
    (case l39 => k_is)
    (case c39 => k_is)
    (case k39 => k_is)
    (case a40 => k_is)
    (case l40 => k_is)
    (case c40 => k_is)
    (case k40 => k_is)
    (case a41 => k_is)
    (case l41 => k_is)
    (case c41 => k_is)
    (case k41 => k_is)
    (case a42 => k_is)
    (case l42 => k_is)
    (case c42 => k_is)
    (case k42 => k_is)
    (case a43 => k_is)
    (case l43 => k_is)
    (case c43 => k_is)
    (case k43 => k_is)
    (case a44 => k_is)
    (case l44 => k_is)
    (case c44 => k_is)
    (case k44 => k_is)
    (case a45 => k_is)
    (case i45 => k_is)
    (case t45 => k_is)
    (case l45 => k_is)
    (case c45 => k_is)
    (case k45 => k_is)
    (case a46 => k_is)
    (case i46 => k_is)
    (case t46 => k_is)
    (case l46 => k_is)
    (case c46 => k_is)
    (case k46 => k_is)
    (case a47 => k_is)
    (case i47 => k_is)
    (case t47 => k_is)
    (case l47 => k_is)
    (case c47 => k_is)
    (case k47 => k_is)
    (case a48 => k_is)
    (case i48 => k_is)
    (case t48 => k_is)
    (case l48 => k_is)
    (case c48 => k_is)
    (case k48 => k_is)
    (case a49 => k_is)
    (case i49 => k_is)
    (case t49 => k_is)
    (case l49 => k_is)
    (case c49 => k_is)
    (case k49 => k_is)
    (case a50 => k_is)
    (case i50 => k_is)
    (case t50 => k_is)
    (case l50 => k_is)
    (case c50 => k_is)
    (case k50 => k_is)
    (case a51 => k_is)
    (case i51 => k_is)
    (case t51 => k_is)
    (case l51 => k_is)
    (case c51 => k_is)
    (case k51 => k_is)
    (case a52 => k_is)
    (case i52 => k_is)
    (case t52 => k_is)
    (case l52 => k_is)
    (case c52 => k_is)
    (case k52 => k_is)
    (case a53 => k_is)
    (case l53 => k_is)
    (case c53 => k_is)
    (case k53 => k_is)
    (case a54 => k_is)
    (case l54 => k_is)
    (case c54 => k_is)
    (case k54 => k_is)
    (case a55 => k_is)
    (case l55 => k_is)
    (case c55 => k_is)
    (case k55 => k_is)
    (case a56 => k_is)
    (case l56 => k_is)
    (case c56 => k_is)
    (case k56 => k_is)
    (case a57 => k_is)
    (case l57 => k_is)
    (case c57 => k_is)
    (case k57 => k_is)
    (case a58 => k_is)
    (case l58 => k_is)
    (case c58 => k_is)
    (case k58 => k_is)
    (case a59 => k_is)
    (case l59 => k_is)
    (case c59 => k_is)
    (case k59 => k_is)
    (case a60 => k_is)
    (case l60 => k_is)
    (case c60 => k_is)
    (case k60 => k_is)
    (case a61 => k_is)
    (case l61 => k_is)
    (case c61 => k_is)
    (case k61 => k_is)
    (case a62 => k_is)
    (case l62 => k_is)
    (case c62 => k_is)
    (case k62 => k_is)
    (case a63 => k_is)
    (case l63 => k_is)
    (case c63 => k_is)
    (case k63 => k_is)
    (case a64 => k_is)
    (case l64 => k_is)
    (case c64 => k_is)
    (case k64 => k_is)
    (case a65 => k_is)
    (case l65 => k_is)
    (case c65 => k_is)
    (case k65 => k_is)
    (case a66 => k_is)
    (case l66 => k_is)
    (case c66 => k_is)
    (case k66 => k_is)
    (case a67 => k_is)
    (case l67 => k_is)
    (case c67 => k_is)
    (case k67 => k_is)
    (case a68 => k_is)
    (case l68 => k_is)
    (case c68 => k_is)
    (case k68 => k_is)
    (case a69 => k_is)
    (case l69 => k_is)
    (case c69 => k_is)
    (case k69 => k_is)
    (case a70 => k_is)
    (case l70 => k_is)
    (case c70 => k_is)
    (case k70 => k_is)
    (case a71 => k_is)
    (case l71 => k_is)
    (case c71 => k_is)
    (case k71 => k_is)
    (case a72 => k_is)
    (case l72 => k_is)
    (case c72 => k_is)
    (case k72 => k_is)
    (case a73 => k_is)
    (case l73 => k_is)
    (case c73 => k_is)
    (case k73 => k_is)
    (case a74 => k_is)
    (case l74 => k_is)
    (case c74 => k_is)
    (case k74 => k_is)
    (case a75 => k_is)
    (case l75 => k_is)
    (case c75 => k_is)
    (case k75 => k_is)
    (case a76 => k_is)
    (case l76 => k_is)
    (case c76 => k_is)
    (case k76 => k_is)
