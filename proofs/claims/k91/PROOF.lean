import PyProof.Rows.All
import Wide.All
import OpenK.AllK
import Wide.FinOn
import HandS.ForMost
import HandS.IsInst
import HandS.Property
import HandS.Defaults
import HandS.WideBits
import HandS.EndBits
import HandS.Conv
import HandS.Style
import HandS.Flow
import HandS.Walk
import HandS.Codes
import KE.GoesEnum
import KE.GoesMore
import HandS.CallRecv
import HandS.HeadWalk
import HandS.HeadEnd
import HandS.Head0
import HandS.Head1
import HandS.Head2
import HandS.HeadHook1
import HandS.HeadHook2
import HandS.HeadNt
import HandS.Head3
import HandS.HeadHook3
import HandS.Star
import HandS.SetFor
import HandS.Strs
import HandS.SortInts
import KE.KCallOwn
import KE.KFmtOwn
import PyProof.InstEq
import HandS.SlotsOwn
import HandS.Text
import HandS.StrMore
import HandS.FStr
import HandS.ClsMeth
import PyProof.StrLawsAffix
import PyProof.Rows.StrAscii
import PyProof.StrLawsRepr
import HandS.TupAny
import HandS.TryOnly
import HandS.Wide
import HandS.Gcd
import HandS.ListItems
import HandS.DictTup
import HandS.SortRule
import HandS.Keys
import KE.KExcIs
import HandS.Lambda
import HandS.EndTab
import HandS.ExcIs
import HandS.ExcField
import HandS.ExcInit
import HandS.HotCalls
import HandS.More
import HandS.Deep
import HandS.CallLocal
import PyProof.TypeEq
import KE.KItemsList
import KE.KDictWalk
import HandS.Iter
import HandS.Zip
import HandS.TupMul
import HandS.List
import PyProof.WalksMore
import PySem.Challenge.RW_evenedshares_k91_known_certificates
set_option Elab.async false
set_option linter.all false
set_option maxRecDepth 100000
set_option maxHeartbeats 4000000
/-! rules of our own over the hand layer -/
namespace Ev
open PySem PySem.Spec PyProof.Rows L2
/-! ### enumerate of a tuple -/
def IteT (K : PySem.W.Frag) (a : Addr) : It :=
  ⟨fun i H => ∃ (xs : List V) (x : V), SqT K H a xs ∧ xs[i]? = some x, fun i H v H' => ∃ T x, v = .ref T ∧ H T = none ∧ H' = upd H T (.tup [.int (i : Nat), x]) ∧ ∀ xs, SqT K H a xs → xs[i]? = some x, fun i H => ∃ xs : List V, SqT K H a xs ∧ xs.length ≤ i⟩
theorem turn_enumT {P : Program} {w : World} {K : PySem.W.Frag} {elts : List Expr} {kk : Nat} {tpos : Pos} (a e it : Addr) :
    Turn P w K (.Tuple elts kk tpos) (IteT K a) [e, it] e (fun i h => (∃ old, IsEnum h e it ((i : Nat) : Int) old) ∧ h.IsTupleIter it a i ∧ e ≠ it ∧ e ≠ a ∧ it ≠ a) where
  mem := by simp
  obj := fun i h st b hb => by
    obtain ⟨⟨old, he⟩, ⟨o, ho, hc, hd⟩, _⟩ := st
    have e' : b = e ∨ b = it := by simpa using hb
    rcases e' with z | z
    · rw [z]; exact ⟨_, he, fun v q => nomatch q⟩
    · rw [z]; exact ⟨o, ho, fun v q => by rw [hd] at q; cases q⟩
  keep := fun i h h' st k => let ⟨⟨old, he⟩, hi, hne⟩ := st; ⟨⟨old, k e (by simp) _ he⟩, hi.at fun o q => k it (by simp) o q, hne⟩
  item := by
    intro X hP hw hK hc i pins s σ H E I hf st hg
    subst hP hw hK
    obtain ⟨⟨old, he⟩, hit, hne, hea, hia⟩ := st
    obtain ⟨xs, x, hq, hx⟩ := hg
    obtain ⟨its, rv, p, hz⟩ := I.tuple hq
    obtain ⟨u, hu, ru⟩ := rv.get hx
    have hel : e < s.heap.objs.size := Heap.lt_size he
    have hil : it < s.heap.objs.size := by obtain ⟨_, q, _⟩ := hit; exact Heap.lt_size q
    have hh := I.ok.hd hc
    have hlt : i < its.toArray.size := by
      have q := (List.getElem?_eq_some_iff.mp hu).1
      simpa using q
    refine wpAny_pyNext_enum_itemD (Draws.tuple (A := X.A.in1) hh it a (Ne.symm hia) its.toArray) he ⟨hit, p⟩ hlt hne (by simp [hne, hea]) fun y h' tk hy ho hst' hT hsz hk => ?_
    have ey : y = u := by
      have q : its[i]? = some y := by simpa using hy
      rw [hu] at q
      exact (Option.some.inj q).symm
    subst ey
    refine ⟨_, rfl, wpAny_letOwnedTupleGo_enum (s := { s with heap := h', toks := tk + 1 }) ho fun h'' he' sb => ?_⟩
    have hT2 : h''.get? s.heap.objs.size = some { cls := .type "tuple", data := .seq #[.int i tk, y] } := (sb.2 _ (Nat.ne_of_gt hel)).trans hT
    have new : ObjOk X.prog X.w (upd H s.heap.objs.size (.tup [.int (i : Nat), x])) h'' s.heap.objs.size (.tup [.int (i : Nat), x]) :=
      ⟨by show 2 ≤ sizeLine; decide, [.int i tk, y], .cons ⟨_, rfl⟩ (.cons ru .nil), ⟨_, hT2, rfl, _, rfl⟩⟩
    have I1 : Inv X pins σ (upd H s.heap.objs.size (.tup [.int (i : Nat), x])) { s with heap := h'', toks := tk + 1 } :=
      I.turnedNew (ch := [e, it]) (fun b ob hb q => (sb.2 b (fun z => hb (by simp [z]))).trans (hk b ob (fun z => hb (by simp [z])) (fun z => hb (by simp [z])) q)) hf (Nat.le_refl _) new
    refine ⟨.ref s.heap.objs.size, _, I1, rfl, ⟨_, x, rfl, I.hok.fresh (Nat.le_refl _), rfl, fun ys hy => by rw [I.tuple_inj hy hq]; exact hx⟩, ⟨⟨y, ?_⟩, hst'.1.at fun o q => (sb.2 it (Ne.symm hne)).trans q, hne, hea, hia⟩, fun b hb => ?_⟩
    · have e1 : ((i + 1 : Nat) : Int) = (i : Int) + 1 := by omega
      rw [e1]; exact he'
    · have hb' : b < s.heap.objs.size := by
        have e' : b = e ∨ b = it := by simpa using hb
        rcases e' with z | z
        · rw [z]; exact hel
        · rw [z]; exact hil
      rw [upd_ne (Nat.ne_of_lt hb')]
      exact (hf b hb).1
  done := by
    intro X hP hw hK hc i pins s σ H E I hf st hg
    subst hP hw hK
    obtain ⟨⟨old, he⟩, hit, hne, hea, hia⟩ := st
    obtain ⟨xs, hq, hx⟩ := hg
    obtain ⟨its, rv, p, hz⟩ := I.tuple hq
    obtain ⟨f0, f1, f2, f3, f4, f5⟩ := hf it (by simp)
    have hl := rv.length
    have hh := I.ok.hd hc
    have hT : s.TypeIs (.ref e) "enumerate" := ⟨_, he, rfl⟩
    unfold pyNext
    refine wpAny_bind (wpAny_attempt (wpAny_callSpecial?_slot (name := Str.ofString "__next__") hT F.slot_enumerate_next
      (wpAny_call_entry F.slot_enumerate_next hT F.entry_enumerate_next ?_ (F.args_enumerate_next_1 _))))
    show wpAny _ _ (field (.ref e) 2 >>= _) _ _ _
    refine wpAny_bind (wpAny_field he rfl (x := .ref it) rfl ?_)
    refine wpAny_bind (wpAny_nextOf_tuple_end (A := X.A.in1) hh hit p (by simp; omega) fun h' x eb hx' => ?_)
    obtain ⟨o, ho, hc⟩ := hx'
    refine wpAny_bind (wpAny_isInstance (T := "StopIteration") (b := true) ⟨o, ho, hc⟩ isSubtype_stop ?_)
    exact wpAny_pure ⟨rfl, I.turned (t' := s.toks) (fun b o hb q => eb b o hb q) f0 f1 f3 f4 f5⟩
  self := fun A i s Q E st h => let ⟨⟨_, he⟩, _⟩ := st; wpAny_pyIter_enum he h
/-- enumerate(v): what its maker lays, v told by how it begins -/
theorem enum_made {v : Value} {o : Obj} {G : Heap → Prop} (B : Begins v o G) :
    Meets (Builtin.«enumerate.__new__» ⟨[.type "enumerate", v], []⟩) (fun _ R s => G s.heap ∧
      R (.ok (.ret (.ref (s.heap.push o).objs.size))) { s with heap := (s.heap.push o).push { cls := .type "enumerate", data := .fields #[.none, .bool false, .ref s.heap.objs.size, rawInt 0, .none, .none] } }) :=
  .of_wp fun prog w A R s h => by
    obtain ⟨hp, g, d, tk, os⟩ := s
    obtain ⟨h1, h⟩ := h
    have sub := sub_enumerate
    have it : ∀ {A' : Around} {E : Value → Shared → Prop} {Q : Value → Shared → Prop}, Q (.ref hp.objs.size) ⟨hp.push o, g, d, tk, os⟩ → wpAny (model prog w) A' (pyIter v) Q E ⟨hp, g, d, tk, os⟩ :=
      fun q => B.iter prog w _ _ ⟨hp, g, d, tk, os⟩ _ h1 q
    wp_walk using it
    refine wpAny_stack_any fun st => wpAny_pure ?_
    split
    · rename_i c _ _ _ _ _
      cases (c == Value.type "enumerate") <;> (wp_walk using it; exact ⟨_, rfl, h⟩)
    · wp_walk using it
      exact ⟨_, rfl, h⟩
theorem enum_tup {prog : Program} {w : World} {A : Around} {E : Value → Shared → Prop} {s : Shared} {t : Addr} {items : Array Value} {Q : Value → Shared → Prop} (ht : s.heap.IsTuple t items)
    (h : ∀ h', IsEnum h' (s.heap.objs.size + 1) s.heap.objs.size 0 .none → h'.IsTupleIter s.heap.objs.size t 0 → (∀ b o, s.heap.get? b = some o → h'.get? b = some o) → Q (.ref (s.heap.objs.size + 1)) { s with heap := h' }) :
    wpAny (model prog w) A (call (.type "enumerate") [.ref t]) Q E s := by
  have B := begins_tuple t items
  refine callType_new F.called_enumerate (by decide) (F.typeCall_enumerate_1 _) (F.newCall_enumerate_1 _) (fun obj => F.args_object_init_2 obj _) F.entry_enumerate_new (enum_made B) ⟨ht, ?_⟩
  have n1 : ∀ ob : Obj, (s.heap.push ob).objs.size = s.heap.objs.size + 1 := fun ob => Heap.size_push ..
  show _ ∧ _
  rw [n1]
  have he := Heap.get?_push_size (s.heap.push { cls := .type "tuple_iterator", data := .fields #[.ref t, .int 0 0] }) (o := { cls := .type "enumerate", data := .fields #[.none, .bool false, .ref s.heap.objs.size, rawInt 0, .none, .none] }) rfl
  rw [n1] at he
  exact ⟨⟨_, he, rfl⟩, h _ he ⟨_, Heap.get?_push_of_some _ (Heap.get?_push_size _ B.free), rfl, rfl⟩ fun b ob x => Heap.get?_push_of_some _ (Heap.get?_push_of_some _ x)⟩
/-- for i, .. in enumerate(a tuple) -/
def iEnumT (K : PySem.W.Frag) (ta : TA) : TI := fun σ H R => ta σ H fun vs H1 => ∃ a xs, vs = [.ref a] ∧ SqT K H1 a xs ∧ R (IteT K a) H1
theorem pi_enumT {X : Cx} {e : Expr} {ta : TA} {p pos tpos : Pos} {elts : List Expr} {kk : Nat} (hg : Gl X "enumerate") (hm : X.mg "enumerate" = none) (ha : PA X [e] ta) (hs : starEach [e] X.env = [(false, eval e X.env)] := by rfl) :
    PI X (.Tuple elts kk tpos) (.Call (.Name "enumerate" p) [e] [] pos) (iEnumT X.K ta) := by
  refine ⟨fun pins s σ H R I h => Call_ (ld_blt I hg hm boot_enumerate (PyProof.Rows.callWith_type1 (thn (ha.run pos pins s σ H _ I h) fun us s1 ⟨vs, H1, I1, r1, a, xs, ex, hq, q⟩ => ?_) hs rfl))⟩
  subst ex
  cases r1 with
  | cons r rr =>
    cases rr
    cases r
    obtain ⟨its, rv, tp, _⟩ := I1.tuple hq
    have la : a < s1.heap.objs.size := by
      obtain ⟨o, e, _⟩ := tp
      exact Heap.lt_size e
    refine enum_tup tp fun h' he hit hk => wpAny_pyIter_enum he ?_
    refine ⟨s1.heap.objs.size + 1, [s1.heap.objs.size + 1, s1.heap.objs.size], _, _, H1, rfl, I1.kept (t' := s1.toks) hk, turn_enumT a (s1.heap.objs.size + 1) s1.heap.objs.size, ⟨⟨.none, he⟩, hit, Nat.succ_ne_self _, Nat.ne_of_gt (Nat.lt_succ_of_lt la), Nat.ne_of_gt la⟩, fun b hb => ?_, q⟩
    have hle : s1.heap.objs.size ≤ b := by
      rcases (show b = s1.heap.objs.size + 1 ∨ b = s1.heap.objs.size by simpa using hb) with z | z <;> (rw [z]; first | exact Nat.le_succ _ | exact Nat.le_refl _)
    exact I1.fpOk hle (I1.hok.fresh hle)
theorem walk_enumT {K : PySem.W.Frag} {a : Addr} {xs : List V} : Walk (IteT K a) xs.length (fun H => SqT K H a xs) (fun i H v H' => ∃ T x, v = .ref T ∧ H T = none ∧ H' = upd H T (.tup [.int (i : Nat), x]) ∧ xs[i]? = some x) where
  goes := fun i H hi h => ⟨xs, xs[i], h, by simp [hi]⟩
  stops := fun H h => ⟨xs, h, Nat.le_refl _⟩
  yields := fun i H v H' _ h ⟨T, x, e1, e2, e3, y⟩ => ⟨T, x, e1, e2, e3, y xs h⟩
/-! ### a text times a number -/
def reps (x : Str) (n : Nat) : Str := ⟨(List.replicate n x.cps).foldl (· ++ ·) #[]⟩
end Ev

set_option Elab.async false
set_option linter.all false
set_option maxRecDepth 100000
set_option maxHeartbeats 4000000
namespace Ev
open PySem PySem.Spec PyProof.Rows L2
/-! ### defs by their promises -/
/-- the module's name x is a def that keeps the promise sp -/
def Def (P : Program) (w : World) (K : PySem.W.Frag) (mg : Str → Option Value) (base : Heap) (x : Str) (ps : List Str) (k : Nat) (sp : Sp) : Prop :=
  ∃ f fd, mg x = some (.ref f) ∧ PySem.W.keepIn K (.ref f) = true ∧ Binds K fd ps [] ∧ FnOk P w K mg base CX0 k f fd ps sp
def tDef (sp : Sp) (t : TA) : TE := fun σ H Q => t σ H fun vs H1 => sp vs H1 Q E0
/-- a reading that asks more -/
theorem pe_imp {X : Cx} {e : Expr} {t t' : TE} (h : PE X e t) (i : ∀ σ H Q, t' σ H Q → t σ H Q) : PE X e t' := ⟨fun pins s σ H Q I q => h.run pins s σ H Q I (i σ H Q q)⟩
section
variable {X : Cx} {x : Str} {ps : List Str} {k : Nat} {sp : Sp} {p pos : Pos} {e : Expr} {es : List Expr} {t : TA}
theorem pe_def (D : Def X.prog X.w X.K X.mg X.base x ps k sp) (hr : Room k X.A) (hg : Gl X x) (ha : PA X (e :: es) t) (hdb : (x == ("__debug__" : Str)) = false := by decide)
    (he : starEach (e :: es) X.env = (false, eval e X.env) :: starEach es X.env := by rfl) (hpl : (backTo pos (starEach es X.env)).any (·.1) = false := by rfl) : PE X (.Call (.Name x p) (e :: es) [] pos) (tDef sp t) := by
  obtain ⟨f, fd, hm, kp, b, G⟩ := D
  refine pe_imp (pe_call G hr hg hm kp b .nil pass0 ha hdb he hpl) fun σ H Q h => ?_
  have e1 : (fun (vs : List V) (H1 : Hp) => sp (vs ++ []) H1 Q E0) = fun vs H1 => sp vs H1 Q E0 := by
    funext vs H1
    rw [List.append_nil]
  show t σ H fun vs H1 => sp (vs ++ []) H1 Q E0
  rw [e1]
  exact h
theorem pe_def0 (D : Def X.prog X.w X.K X.mg X.base x ps k sp) (hr : Room k X.A) (hg : Gl X x) (hdb : (x == ("__debug__" : Str)) = false := by decide) : PE X (.Call (.Name x p) [] [] pos) (tDef sp tNil) := by
  obtain ⟨f, fd, hm, kp, b, G⟩ := D
  exact pe_imp (pe_call0 G hr hg hm kp b .nil pass0 hdb) fun σ H Q h => h
theorem pe_globI {i : Int} (hg : Gl X x) (h : ∃ t, X.mg x = some (.int i t)) (hdb : (x == ("__debug__" : Str)) = false := by decide) : PE X (.Name x p) (tC (.int i)) := by
  obtain ⟨t, hm⟩ := h
  exact pe_glob hg hm ⟨t, rfl⟩ hdb
end
/-! ### rules told over K, for a comprehension's block -/
theorem ix_tupK {X : Cx} {K : PySem.W.Frag} (h : X.K = K) : IxR X (rIxT K) := h ▸ ix_tup
/-! ### what stays -/
/-- all but the object at a stays -/
def Fx (a : Addr) (H H' : Hp) : Prop := ∀ b o, b ≠ a → H b = some o → H' b = some o
theorem Fx.refl {a : Addr} {H : Hp} : Fx a H H := fun _ _ _ h => h
theorem Fx.trans {a : Addr} {H H1 H2 : Hp} (h : Fx a H H1) (h' : Fx a H1 H2) : Fx a H H2 := fun b o n e => h' b o n (h b o n e)
theorem Fx.of_same {a : Addr} {H H' : Hp} (h : Same H H') : Fx a H H' := fun b o _ e => h b o e
theorem Fx.new {a p : Addr} {H : Hp} {o : HO} (h : H p = none) : Fx a H (upd H p o) := fun b x _ e => by
  rw [upd_ne (ne_of_none e h)]
  exact e
theorem same_new {p : Addr} {H : Hp} {o : HO} (h : H p = none) : Same H (upd H p o) := fun b x e => by
  rw [upd_ne (ne_of_none e h)]
  exact e
theorem Fx.put {a : Addr} {H : Hp} {o : HO} : Fx a H (upd H a o) := fun b x n e => by
  rw [upd_ne n]
  exact e
theorem Fx.rd {a m : Addr} {H H' : Hp} {u : HO} (f : Fx a H H') (n : m ≠ a) (h : Rd H m u) : Rd H' m u := by
  rcases h with h | ⟨o, h⟩
  · exact .inl (f _ _ n h)
  · exact .inr ⟨o, f _ _ n h⟩
theorem Fx.l {K : PySem.W.Frag} {a m : Addr} {H H' : Hp} {xs : List V} (f : Fx a H H') (n : m ≠ a) (h : SqL K H m xs) : SqL K H' m xs := by
  rcases h with h | h
  · exact .inl (f.rd n h)
  · exact .inr h
theorem Fx.t {K : PySem.W.Frag} {a m : Addr} {H H' : Hp} {xs : List V} (f : Fx a H H') (n : m ≠ a) (h : SqT K H m xs) : SqT K H' m xs := by
  rcases h with h | h
  · exact .inl (f.rd n h)
  · exact .inr h
theorem same_t {K : PySem.W.Frag} {m : Addr} {H H' : Hp} {xs : List V} (f : Same H H') (h : SqT K H m xs) : SqT K H' m xs := by
  rcases h with (h | ⟨o, h⟩) | h
  · exact .inl (.inl (f _ _ h))
  · exact .inl (.inr ⟨o, f _ _ h⟩)
  · exact .inr h
/-! ### the drawing list of a law: three ints -/
/-- at a stands such a list; what counts the draws is at most n -/
def Vt (n : Nat) (H : Hp) (a : Addr) : Prop := ∃ x y z : Int, H a = some (.lst [.int x, .int y, .int z]) ∧ 0 ≤ x ∧ x < 2147483648 ∧ 0 ≤ y ∧ 0 ≤ z ∧ z ≤ n
theorem Vt.same {n : Nat} {H H' : Hp} {a : Addr} (v : Vt n H a) (s : Same H H') : Vt n H' a := by
  obtain ⟨x, y, z, h, r⟩ := v
  exact ⟨x, y, z, s _ _ h, r⟩
theorem Vt.mono {n m : Nat} {H : Hp} {a : Addr} (v : Vt n H a) (h : n ≤ m) : Vt m H a := by
  obtain ⟨x, y, z, e, h1, h2, h3, h4, h5⟩ := v
  exact ⟨x, y, z, e, h1, h2, h3, h4, by omega⟩
theorem Vt.ne {n : Nat} {H : Hp} {a p : Addr} (v : Vt n H a) (h : H p = none) : p ≠ a := by
  obtain ⟨x, y, z, e, _⟩ := v
  exact fun q => by rw [q, e] at h; cases h
theorem Vt.new {n : Nat} {H : Hp} {a p : Addr} {o : HO} (v : Vt n H a) (h : H p = none) : Vt n (upd H p o) a := v.same (same_new h)
/-- a list's item at a written place -/
theorem at0 {a : V} {l : List V} : atI (a :: l) 0 = some a := atI_nat (j := 0) rfl
theorem at1 {a b : V} {l : List V} : atI (a :: b :: l) 1 = some b := atI_nat (j := 1) rfl
theorem at2 {a b c : V} {l : List V} : atI (a :: b :: c :: l) 2 = some c := atI_nat (j := 2) rfl
theorem atLast {α : Type} {l : List α} {v : α} (h : l.getLast? = some v) : atI l (-1) = some v := by
  obtain ⟨l', rfl⟩ := List.getLast?_eq_some_iff.mp h
  exact atI_last _ _
theorem atI_at {α : Type} {l : List α} {i : Int} {v : α} (h0 : 0 ≤ i) (h : l[i.toNat]? = some v) : atI l i = some v := by
  have e : ((i.toNat : Nat) : Int) = i := by omega
  rw [← e]
  exact atI_nat h
/-! ### promises of the drawing defs -/
def spScoop : Sp := fun vs H Q _ => ∃ (a : Addr) (size : Int) (n : Nat), vs = [.ref a, .int size] ∧ 1 ≤ size ∧ size ≤ 1000000 ∧ Vt n H a ∧ n ≤ 1000000000 ∧
  ∀ (r : Int) (H' : Hp), 0 ≤ r → r < size → Fx a H H' → Vt (n + 1) H' a → Q (.int r) H'
def spChoice (K : PySem.W.Frag) : Sp := fun vs H Q _ => ∃ (a m : Addr) (xs : List V) (n : Nat), vs = [.ref a, .ref m] ∧ m ≠ a ∧ (SqL K H m xs ∨ SqT K H m xs) ∧ 1 ≤ xs.length ∧ xs.length ≤ 1000000 ∧ Vt n H a ∧ n ≤ 1000000000 ∧
  ∀ (v : V) (H' : Hp), v ∈ xs → Fx a H H' → Vt (n + 1) H' a → Q v H'
def spTen : Sp := fun vs H Q _ => ∃ z : Nat, vs = [.int z] ∧ 2 ≤ z ∧ z ≤ 80 ∧ Q (.int (10 ^ z)) H
def spGreat : Sp := fun vs H Q _ => ∃ (a : Addr) (z n : Nat), vs = [.ref a, .int z] ∧ 2 ≤ z ∧ z ≤ 80 ∧ Vt n H a ∧ n ≤ 900000000 ∧
  ∀ (r : Int) (H' : Hp), 0 ≤ r → r ≤ 10 ^ z → Fx a H H' → Vt (n + 10 + z) H' a → Q (.int r) H'
def spVat (K : PySem.W.Frag) : Sp := fun vs H Q _ => ∃ (sc : Addr) (ns : List Int) (lap : Int), vs = [.ref sc, .int lap] ∧ SqL K H sc (ns.map V.int) ∧ ns.length ≤ 63 ∧ 0 ≤ lap ∧ lap ≤ 100 ∧
  ∀ (p : Addr) (H' : Hp), H p = none → Same H H' → Vt 0 H' p → Q (.ref p) H'
end Ev

set_option Elab.async false
set_option linter.all false
set_option maxRecDepth 100000
set_option maxHeartbeats 4000000
namespace Ev
open PySem PySem.Spec PyProof.Rows L2
/-! ### rules of bands in plain Lean -/
abbrev Band : Type := Int × Int × Int
def left1 (b : Band) (x : Int) : Int := b.2.1 + b.2.2 * (x - b.1)
/-- what bands leave of an income: by the last one that begins there or before -/
def leftOf (bs : List Band) (x : Int) : Int := match (bs.filter fun b => decide (b.1 ≤ x)).getLast? with
  | some b => left1 b x
  | none => 0
/-- bands of a rule -/
structure Good (bs : List Band) : Prop where
  len1 : 1 ≤ bs.length
  len8 : bs.length ≤ 8
  first : ∀ b, bs[0]? = some b → b.1 = 0
  rises : ∀ (i : Nat) b c, bs[i]? = some b → bs[i + 1]? = some c → b.1 < c.1
  start : ∀ b ∈ bs, b.1 ≤ 10 ^ 29
  value : ∀ b ∈ bs, 0 ≤ b.2.1 ∧ b.2.1 ≤ 10 ^ 32
  step : ∀ b ∈ bs, -1000 ≤ b.2.2 ∧ b.2.2 ≤ 1000
  ends : ∀ (i : Nat) b c, bs[i]? = some b → bs[i + 1]? = some c → b.2.2 < 0 → 0 ≤ left1 b (c.1 - 1)
  last : ∀ (i : Nat) b, bs[i]? = some b → bs[i + 1]? = none → 0 ≤ b.2.2
theorem Good.nonneg {bs : List Band} (g : Good bs) : ∀ (i : Nat) b, bs[i]? = some b → 0 ≤ b.1
  | 0, b, h => by
    have := g.first b h
    omega
  | i + 1, b, h => by
    have hl := (List.getElem?_eq_some_iff.mp h).1
    have h1 : bs[i]? = some (bs[i]'(by omega)) := List.getElem?_eq_getElem _
    have := g.rises i _ b h1 h
    have := Good.nonneg g i _ h1
    omega
theorem Good.nonneg' {bs : List Band} (g : Good bs) {b : Band} (h : b ∈ bs) : 0 ≤ b.1 := by
  obtain ⟨i, hi⟩ := List.mem_iff_getElem?.mp h
  exact g.nonneg i b hi
/-- where the order turns in the band with this place -/
def turnAt (bs : List Band) (i : Nat) : Option Int := match bs[i]?, bs[i + 1]? with
  | some b, some c => if b.2.2 < 0 ∧ c.1 - 1 ≠ b.1 then some b.1 else if left1 b (c.1 - 1) > c.2.1 then some (c.1 - 1) else none
  | some b, none => if b.2.2 < 0 then some b.1 else none
  | none, _ => none
def firstTurn (bs : List Band) : Option Int := (List.range bs.length).findSome? (turnAt bs)
def optV : Option Int → V
  | none => .non
  | some i => .int i
theorem ne_of_dec {a b : Int} (k : (!decide (V.int a = V.int b)) = true) : ¬ a = b := fun z => by
  subst z
  simp at k
theorem eq_of_dec {a b : Int} (k : ¬ (!decide (V.int a = V.int b)) = true) : a = b := Decidable.byContradiction fun z => k (by simp [z])
/-! ### in the heap -/
def bandT (b : Band) : List V := [.int b.1, .int b.2.1, .int b.2.2]
/-- at t stands the tuple of these bands -/
def BandsAt (H : Hp) (t : Addr) (bs : List Band) : Prop := ∃ rs : List Addr, H t = some (.tup (rs.map V.ref)) ∧ rs.length = bs.length ∧ ∀ (i : Nat) r b, rs[i]? = some r → bs[i]? = some b → H r = some (.tup (bandT b))
theorem BandsAt.same {H H' : Hp} {t : Addr} {bs : List Band} (h : BandsAt H t bs) (s : Same H H') : BandsAt H' t bs := by
  obtain ⟨rs, h1, h2, h3⟩ := h
  exact ⟨rs, s _ _ h1, h2, fun i r b hr hb => s _ _ (h3 i r b hr hb)⟩
theorem Vt.neT {n : Nat} {H : Hp} {a t : Addr} {xs : List V} (v : Vt n H a) (h : H t = some (.tup xs)) : t ≠ a := by
  obtain ⟨x, y, z, e, _⟩ := v
  exact ne_of h e (by intro q; cases q)
theorem Vt.neI {n : Nat} {H : Hp} {a t : Addr} {C dx : Addr} {fs : List (Str × V)} (v : Vt n H a) (h : H t = some (.ins C dx fs)) : t ≠ a := by
  obtain ⟨x, y, z, e, _⟩ := v
  exact ne_of h e (by intro q; cases q)
theorem BandsAt.fx {H H' : Hp} {t a : Addr} {bs : List Band} {n : Nat} (h : BandsAt H t bs) (v : Vt n H a) (f : Fx a H H') : BandsAt H' t bs := by
  obtain ⟨rs, h1, h2, h3⟩ := h
  exact ⟨rs, f _ _ (v.neT h1) h1, h2, fun i r b hr hb => f _ _ (v.neT (h3 i r b hr hb)) (h3 i r b hr hb)⟩
theorem BandsAt.sq {K : PySem.W.Frag} {H : Hp} {t : Addr} {bs : List Band} (h : BandsAt H t bs) : ∃ rs : List Addr, SqT K H t (rs.map V.ref) ∧ rs.length = bs.length ∧ ∀ (i : Nat) r b, rs[i]? = some r → bs[i]? = some b → SqT K H r (bandT b) := by
  obtain ⟨rs, h1, h2, h3⟩ := h
  exact ⟨rs, SqT.of h1, h2, fun i r b hr hb => SqT.of (h3 i r b hr hb)⟩
/-- the i-th band -/
theorem BandsAt.get {K : PySem.W.Frag} {H : Hp} {t : Addr} {bs : List Band} (h : BandsAt H t bs) : ∃ rs : List Addr, SqT K H t (rs.map V.ref) ∧ rs.length = bs.length ∧ ∀ (i : Nat) b, bs[i]? = some b → ∃ r, rs[i]? = some r ∧ (rs.map V.ref)[i]? = some (V.ref r) ∧ SqT K H r (bandT b) := by
  obtain ⟨rs, h1, h2, h3⟩ := h.sq (K := K)
  refine ⟨rs, h1, h2, fun i b hb => ?_⟩
  have hl := (List.getElem?_eq_some_iff.mp hb).1
  have hr : rs[i]? = some (rs[i]'(by omega)) := List.getElem?_eq_getElem _
  exact ⟨_, hr, by rw [List.getElem?_map, hr]; rfl, h3 i _ b hr hb⟩
/-- a tuple's type -/
theorem tyT {K : PySem.W.Frag} {H : Hp} {a : Addr} {xs : List V} (h : SqT K H a xs) : TyX K H (.ref a) (.type "tuple") := by
  rcases h with (h | ⟨o, h⟩) | ⟨o, its, n, h1, h2, _⟩
  · exact .base (.tup h)
  · exact .fTuple h
  · exact .kTuple h1 h2
/-! ### promises of the program's defs -/
def spWithin (K : PySem.W.Frag) : Sp := fun vs H Q _ => ∃ (v : V) (lo hi : Int), vs = [v, .int lo, .int hi] ∧
  ((∃ i, v = .int i ∧ Q (.bl (decide (lo ≤ i ∧ i ≤ hi))) H) ∨ (∃ b, v = .bl b ∧ Q (.bl false) H) ∨ ∃ T, TyX K H v (.type T) ∧ PySem.W.kitOne K (.type T) (.type "int") = some false ∧ Q (.bl false) H)
def spInt1 (lo hi : Int) : Sp := fun vs H Q _ => ∃ i : Int, vs = [.int i] ∧ Q (.bl (decide (lo ≤ i ∧ i ≤ hi))) H
/-- last_income: of the band at this place -/
def lastOf (bs : List Band) (i : Nat) : Option Int := (bs[i + 1]?).map fun c => c.1 - 1
def spLastIncome : Sp := fun vs H Q _ => ∃ (t : Addr) (bs : List Band) (i : Nat), vs = [.ref t, .int i] ∧ BandsAt H t bs ∧ i < bs.length ∧ Q (optV (lastOf bs i)) H
/-- is_band of a band whose start lies where it is asked -/
def spIsBand (K : PySem.W.Frag) : Sp := fun vs H Q _ => ∃ (r : Addr) (b : Band) (lo hi : Int), vs = [.ref r, .int lo, .int hi] ∧ SqT K H r (bandT b) ∧
  Q (.bl (decide (lo ≤ b.1 ∧ b.1 ≤ hi) && (decide (0 ≤ b.2.1 ∧ b.2.1 ≤ 10 ^ 32) && decide (-1000 ≤ b.2.2 ∧ b.2.2 ≤ 1000)))) H
/-- first_wrong, first_below of a rule's bands: None -/
def spNoneOf : Sp := fun vs H Q _ => ∃ (t : Addr) (bs : List Band), vs = [.ref t] ∧ BandsAt H t bs ∧ Good bs ∧ ∀ H', Same H H' → Q .non H'
def spFirstTurn : Sp := fun vs H Q _ => ∃ (t : Addr) (bs : List Band), vs = [.ref t] ∧ BandsAt H t bs ∧ Good bs ∧ ∀ H', Same H H' → Q (optV (firstTurn bs)) H'
def spLeftBy : Sp := fun vs H Q _ => ∃ (t : Addr) (bs : List Band) (x : Int), vs = [.ref t, .int x] ∧ BandsAt H t bs ∧ Good bs ∧ 0 ≤ x ∧ ∀ H', Same H H' → Q (.int (leftOf bs x)) H'
/-- at r stands a rule object of these bands -/
def RuleAt (C : Addr) (H : Hp) (r : Addr) (bs : List Band) : Prop := ∃ dx t : Addr, H r = some (.ins C dx [("_bands", .ref t)]) ∧ BandsAt H t bs ∧ Good bs
theorem RuleAt.fx {C : Addr} {H H' : Hp} {r a : Addr} {bs : List Band} {n : Nat} (h : RuleAt C H r bs) (v : Vt n H a) (f : Fx a H H') : RuleAt C H' r bs := by
  obtain ⟨dx, t, h1, h2, g⟩ := h
  exact ⟨dx, t, f _ _ (v.neI h1) h1, h2.fx v f, g⟩
theorem RuleAt.same {C : Addr} {H H' : Hp} {r : Addr} {bs : List Band} (h : RuleAt C H r bs) (s : Same H H') : RuleAt C H' r bs := by
  obtain ⟨dx, t, h1, h2, g⟩ := h
  exact ⟨dx, t, s _ _ h1, h2.same s, g⟩
/-- Rule(bands) -/
def spRule (C : Addr) : Sp := fun vs H Q _ => ∃ (t : Addr) (bs : List Band), vs = [.ref t] ∧ BandsAt H t bs ∧ Good bs ∧ ∀ (r : Addr) (H' : Hp), H r = none → Same H H' → RuleAt C H' r bs → Q (.ref r) H'
def spInit (C : Addr) : Sp := fun vs H Q _ => ∃ (r dx t : Addr) (bs : List Band), vs = [.ref r, .ref t] ∧ H r = some (.ins C dx []) ∧ BandsAt H t bs ∧ Good bs ∧ ∀ H', Fx r H H' → H' r = some (.ins C dx [("_bands", .ref t)]) → Q .non H'
def spLeft (C : Addr) : Sp := fun vs H Q _ => ∃ (r : Addr) (bs : List Band) (x : Int), vs = [.ref r, .int x] ∧ RuleAt C H r bs ∧ 0 ≤ x ∧ x ≤ 10 ^ 30 ∧ ∀ H', Same H H' → Q (.int (leftOf bs x)) H'
def spKeeps (C : Addr) : Sp := fun vs H Q _ => ∃ (r : Addr) (bs : List Band), vs = [.ref r] ∧ RuleAt C H r bs ∧ ∀ H', Same H H' → Q (.bl (firstTurn bs).isNone) H'
def spPlain (C : Addr) : Sp := fun vs H Q _ => vs = [] ∧ ∀ (r : Addr) (H' : Hp), H r = none → Same H H' → RuleAt C H' r [(0, 0, 100)] → Q (.ref r) H'
end Ev

set_option Elab.async false
set_option linter.all false
set_option maxRecDepth 100000
set_option maxHeartbeats 4000000
namespace Ev
open PySem PySem.Spec PyProof.Rows L2
/-! ### a class's methods, properties, maker by their promises -/
def MDef (P : Program) (w : World) (K : PySem.W.Frag) (mg : Str → Option Value) (base : Heap) (C : Addr) (m : Str) (ps : List Str) (k : Nat) (sp : Sp) : Prop :=
  ∃ f fd, Meth K C m f ∧ Binds K fd ps [] ∧ FnOk P w K mg base CX0 k f fd ps sp
def PDef (P : Program) (w : World) (K : PySem.W.Frag) (mg : Str → Option Value) (base : Heap) (C : Addr) (x : Str) (k : Nat) (sp : Sp) : Prop :=
  ∃ p g fd, PropOf K C x p g ∧ Binds K fd ["self"] [] ∧ FnOk P w K mg base CX0 k g fd ["self"] sp
def IDef (P : Program) (w : World) (K : PySem.W.Frag) (mg : Str → Option Value) (base : Heap) (C : Addr) (ps : List Str) (k : Nat) (sp : Sp) : Prop :=
  ∃ f fd, Mk K C f ∧ Binds K fd ps [] ∧ FnOk P w K mg base CX0 k f fd ps sp
section
variable {X : Cx} {x m : Str} {C : Addr} {ps : List Str} {k : Nat} {sp spM : Sp} {p pos apos : Pos} {o e : Expr} {es : List Expr} {ta : TE} {t : TA}
theorem pe_propD (D : PDef X.prog X.w X.K X.mg X.base C x k sp) (c : Cls X.K C) (he : PE X e ta) (hr : Room (k + 1) X.A) (hab : attributeBase e x X.env (eval e X.env) = eval e X.env := by rfl) : PE X (.Attribute e x pos) (tProp C sp [] E0 ta) := by
  obtain ⟨q, g, fd, hp, b, G⟩ := D
  exact pe_prop he c hp G hr b .nil pass0 hab
theorem pe_makeI (D : IDef X.prog X.w X.K X.mg X.base C ps k sp) (hr : Room (k + 1) X.A) (hg : Gl X x) (hm : X.mg x = some (.ref C)) (ha : PA X (e :: es) t)
    (hi : ∀ vs H Q, spM vs H Q E0 → ∀ r dx, H r = none → H dx = none → dx ≠ r → sp (.ref r :: vs) (upd (upd H dx (.own r)) r (.ins C dx [])) (fun v H2 => v = .non ∧ Q (.ref r) H2) E0)
    (hdb : (x == ("__debug__" : Str)) = false := by decide) (he : starEach (e :: es) X.env = (false, eval e X.env) :: starEach es X.env := by rfl) (hpl : (backTo pos (starEach es X.env)).any (·.1) = false := by rfl) :
    PE X (.Call (.Name x p) (e :: es) [] pos) (tDef spM t) := by
  obtain ⟨f, fd, M, b, G⟩ := D
  refine ⟨fun pins s σ H Q I h => wpAny_Call_Name_kw (ld_glob I hg hm (PySem.W.callWith_K (h₀ := X.base) I.ok.mod.kin M.kp (thn (ha.run pos pins s σ H _ I h) fun us s1 ⟨vs, H1, I1, r, q⟩ => ⟨I1.kIn, ?_⟩) he hpl) hdb)⟩
  exact run_make M G hr b .nil pass0 I1 r fun r dx h1 h2 h3 => by
    rw [List.append_nil]
    exact hi vs H1 Q q r dx h1 h2 h3
end
/-! ### calls by keywords alone -/
def KB (fd : FuncData) (ps : List Str) (n : Nat) (ks : List Str) : Prop := ∀ (s : Shared) (us ws : List Value), us.length = n → ws.length = ks.length → BindsTo s fd ⟨us, ks.zip ws⟩ (ps.zip (us ++ ws))
def MKDef (P : Program) (w : World) (K : PySem.W.Frag) (mg : Str → Option Value) (base : Heap) (C : Addr) (m : Str) (ps ks : List Str) (k : Nat) (sp : Sp) : Prop :=
  ∃ f fd, Meth K C m f ∧ KB fd ps 1 ks ∧ FnOk P w K mg base CX0 k f fd ps sp
def KDef (P : Program) (w : World) (K : PySem.W.Frag) (mg : Str → Option Value) (base : Heap) (x : Str) (ps ks : List Str) (k : Nat) (sp : Sp) : Prop :=
  ∃ f fd, mg x = some (.ref f) ∧ PySem.W.keepIn K (.ref f) = true ∧ KB fd ps 0 ks ∧ FnOk P w K mg base CX0 k f fd ps sp
def tMethK (C : Addr) (m : Str) (n : Nat) (sp : Sp) (ta : TE) (tk : TA) : TE := fun σ H Q => ta σ H fun x H1 => ∃ a dx fs, x = .ref a ∧ H1 a = some (.ins C dx fs) ∧ fs.lookup m = none ∧ tk σ H1 fun zs H2 => zs.length = n ∧ sp (x :: zs) H2 Q E0
def tDefK (n : Nat) (sp : Sp) (tk : TA) : TE := fun σ H Q => tk σ H fun zs H1 => zs.length = n ∧ sp zs H1 Q E0
section
variable {X : Cx} {x m : Str} {C : Addr} {ps ks : List Str} {k : Nat} {sp : Sp} {p pos apos : Pos} {o : Expr} {kws : List Keyword} {ta : TE} {tk : TA}
theorem ran {pins : List (Addr × Obj)} {σ : L2.St} {H : Hp} {s : Shared} {Q : VK} {f : Addr} {fd : FuncData} {args : Args} {us : List Value} {vs : List V} (G : FnOk X.prog X.w X.K X.mg X.base CX0 k f fd ps sp) (hr : Room k X.A) (I : Inv X pins σ H s)
    (b : BindsTo s fd args (ps.zip us)) (r : Vals vs us) (h : sp vs H Q E0) : wpAny (model X.prog X.w) X.A (call (.ref f) args.pos args.kw) (EP X pins σ Q) X.xe s := by
  refine wpAny_call (codeAny_mono (G.run X.A X.stack s H args us vs Q E0 hr I.env0 b r h) fun r s' hq => ?_)
  cases r with
  | error e => exact hq.elim
  | ok fl =>
    cases fl with
    | ret u => exact I.after hq
    | next => exact False.elim hq
    | brk => exact False.elim hq
    | cont => exact False.elim hq
end
/-- Rule(bands) from its __init__ -/
theorem rule_made {C : Addr} (vs : List V) (H : Hp) (Q : VK) (h : spRule C vs H Q E0) (r dx : Addr) (h1 : H r = none) (h2 : H dx = none) (h3 : dx ≠ r) :
    spInit C (.ref r :: vs) (upd (upd H dx (.own r)) r (.ins C dx [])) (fun v H2 => v = .non ∧ Q (.ref r) H2) E0 := by
  obtain ⟨t, bs, rfl, hB, g, q⟩ := h
  have s1 : Same H (upd (upd H dx (.own r)) r (.ins C dx [])) := (same_new h2).trans (same_new (by rw [upd_ne (Ne.symm h3)]; exact h1))
  refine ⟨r, dx, t, bs, rfl, upd_same, hB.same s1, g, fun H' fx hr => ⟨rfl, ?_⟩⟩
  have s2 : Same H H' := fun b o e => fx b o (ne_of_none e h1) (s1 b o e)
  exact q r H' h1 s2 ⟨dx, t, hr, hB.same s2, g⟩
end Ev

set_option Elab.async false
set_option linter.all false
set_option maxRecDepth 100000
set_option maxHeartbeats 4000000
namespace Ev
open PySem PySem.Spec PyProof.Rows L2
theorem kit_int {K : PySem.W.Frag} : PySem.W.kitOne K (.type "int") (.type "int") = some true := kit_ty (by decide +kernel)
theorem kit_int_bool {K : PySem.W.Frag} : PySem.W.kitOne K (.type "int") (.type "bool") = some false := kit_ty (by decide +kernel)
theorem kit_bool {K : PySem.W.Frag} : PySem.W.kitOne K (.type "bool") (.type "bool") = some true := kit_ty (by decide +kernel)
theorem kit_bool_int {K : PySem.W.Frag} : PySem.W.kitOne K (.type "bool") (.type "int") = some true := kit_ty (by decide +kernel)
theorem kit_tup {K : PySem.W.Frag} : PySem.W.kitOne K (.type "tuple") (.type "tuple") = some true := kit_ty (by decide +kernel)
theorem band_at {bs : List Band} {rs : List Addr} (hl : rs.length = bs.length) {i : Nat} {x : V} (h : (rs.map V.ref)[i]? = some x) : ∃ r b, x = .ref r ∧ rs[i]? = some r ∧ bs[i]? = some b := by
  rw [List.getElem?_map] at h
  have hi : i < rs.length := by
    have := (List.getElem?_eq_some_iff.mp (show (rs.map V.ref)[i]? = some x by rw [List.getElem?_map]; exact h)).1
    rwa [List.length_map] at this
  rw [List.getElem?_eq_getElem hi] at h
  exact ⟨rs[i], bs[i]'(by omega), (Option.some.inj h).symm, List.getElem?_eq_getElem hi, List.getElem?_eq_getElem _⟩
theorem find_some {α : Type} {f : Nat → Option α} {n i : Nat} {x : α} (h : ∀ j, j < i → f j = none) (hi : i < n) (e : f i = some x) : (List.range n).findSome? f = some x := by
  induction n generalizing i with
  | zero => omega
  | succ n ih =>
    rw [List.range_succ, List.findSome?_append]
    by_cases hn : i < n
    · rw [ih h hn e]
      rfl
    · have : i = n := by omega
      subst this
      have e0 : (List.range i).findSome? f = none := by
        rw [List.findSome?_eq_none_iff]
        intro j hj
        exact h j (List.mem_range.mp hj)
      rw [e0]
      simp [e]
theorem find_none {α : Type} {f : Nat → Option α} {n : Nat} (h : ∀ j, j < n → f j = none) : (List.range n).findSome? f = none := by
  rw [List.findSome?_eq_none_iff]
  intro j hj
  exact h j (List.mem_range.mp hj)
theorem zip_snd {rs : List Addr} {bs : List Band} (h : rs.length = bs.length) : (rs.zip bs).map Prod.snd = bs := List.map_snd_zip (by omega)
theorem zip_get {rs : List Addr} {bs : List Band} {p : Addr × Band} (h : p ∈ rs.zip bs) : ∃ i : Nat, rs[i]? = some p.1 ∧ bs[i]? = some p.2 := by
  obtain ⟨i, hi⟩ := List.mem_iff_getElem?.mp h
  rw [List.getElem?_zip_eq_some] at hi
  exact ⟨i, hi⟩
/-! ### rules of one and of two bands -/
theorem good1 {v s : Int} (v0 : 0 ≤ v) (v1 : v ≤ 10 ^ 32) (s0 : 0 ≤ s) (s1 : s ≤ 1000) : Good [(0, v, s)] where
  len1 := by show 1 ≤ 1; decide
  len8 := by show 1 ≤ 8; decide
  first := fun b h => by cases h; rfl
  rises := fun i b c h h' => by cases h'
  start := fun b h => by rw [List.mem_singleton.mp h]; show (0 : Int) ≤ 10 ^ 29; decide
  value := fun b h => by rw [List.mem_singleton.mp h]; exact ⟨v0, v1⟩
  step := fun b h => by rw [List.mem_singleton.mp h]; exact ⟨by show -1000 ≤ s; omega, s1⟩
  ends := fun i b c h h' => by cases h'
  last := fun i b h _ => by
    rw [List.mem_singleton.mp (List.mem_of_getElem? h)]
    exact s0
theorem good2 {v s e v' s' : Int} (v0 : 0 ≤ v) (v1 : v ≤ 10 ^ 32) (s0 : -1000 ≤ s) (s1 : s ≤ 1000) (e0 : 1 ≤ e) (e1 : e ≤ 10 ^ 29) (v0' : 0 ≤ v') (v1' : v' ≤ 10 ^ 32) (s0' : 0 ≤ s') (s1' : s' ≤ 1000)
    (h : s < 0 → 0 ≤ v + s * (e - 1 - 0)) : Good [(0, v, s), (e, v', s')] where
  len1 := by show 1 ≤ 2; decide
  len8 := by show 2 ≤ 8; decide
  first := fun b h => by cases h; rfl
  rises := fun i b c h h' => by
    match i, h, h' with
    | 0, h, h' => cases h; cases h'; show (0 : Int) < e; omega
    | 1, h, h' => cases h'
    | i + 2, h, h' => cases h
  start := fun b h => by
    rcases List.mem_cons.mp h with z | z
    · rw [z]; show (0 : Int) ≤ 10 ^ 29; decide
    · rw [List.mem_singleton.mp z]; exact e1
  value := fun b h => by
    rcases List.mem_cons.mp h with z | z
    · rw [z]; exact ⟨v0, v1⟩
    · rw [List.mem_singleton.mp z]; exact ⟨v0', v1'⟩
  step := fun b h => by
    rcases List.mem_cons.mp h with z | z
    · rw [z]; exact ⟨s0, s1⟩
    · rw [List.mem_singleton.mp z]; exact ⟨by show -1000 ≤ s'; omega, s1'⟩
  ends := fun i b c hb hc hs => by
    match i, hb, hc with
    | 0, hb, hc => cases hb; cases hc; exact h hs
    | 1, hb, hc => cases hc
    | i + 2, hb, hc => cases hb
  last := fun i b hb hc => by
    match i, hb, hc with
    | 0, hb, hc => cases hc
    | 1, hb, hc => cases hb; exact s0'
    | i + 2, hb, hc => cases hb
theorem turn1 {v s : Int} (h : 0 ≤ s) : firstTurn [(0, v, s)] = none := by
  have : ¬ s < 0 := by omega
  unfold firstTurn
  simp [List.range_succ, turnAt, this]
theorem turn2 {v s e v' s' : Int} (h : 0 ≤ s') : firstTurn [(0, v, s), (e, v', s')] = if s < 0 ∧ e - 1 ≠ 0 then some 0 else if v + s * (e - 1 - 0) > v' then some (e - 1) else none := by
  have n : ¬ s' < 0 := by omega
  have t0 : turnAt [(0, v, s), (e, v', s')] 0 = if s < 0 ∧ e - 1 ≠ 0 then some 0 else if v + s * (e - 1 - 0) > v' then some (e - 1) else none := rfl
  have t1 : turnAt [(0, v, s), (e, v', s')] 1 = none := if_neg n
  show List.findSome? (turnAt [(0, v, s), (e, v', s')]) [0, 1] = _
  rw [List.findSome?_cons, List.findSome?_cons, List.findSome?_nil, t0, t1]
  by_cases c : s < 0 ∧ e - 1 ≠ 0
  · rw [if_pos c]
  · rw [if_neg c]
    by_cases d : v + s * (e - 1 - 0) > v'
    · rw [if_pos d]
    · rw [if_neg d]
/-! ### such tuples, just made -/
theorem made1 {H : Hp} {b t : Addr} {x : Band} (hb : H b = none) (ht : (upd H b (.tup (bandT x))) t = none) : Same H (upd (upd H b (.tup (bandT x))) t (.tup [.ref b])) ∧ BandsAt (upd (upd H b (.tup (bandT x))) t (.tup [.ref b])) t [x] := by
  refine ⟨(same_new hb).trans (same_new ht), [b], upd_same, rfl, fun i r c hr hc => ?_⟩
  match i, hr, hc with
  | 0, hr, hc =>
    cases hr
    cases hc
    exact same_new ht _ _ upd_same
  | i + 1, hr, hc => cases hr
theorem made2 {H : Hp} {b c t : Addr} {x y : Band} (hb : H b = none) (hc : (upd H b (.tup (bandT x))) c = none) (ht : (upd (upd H b (.tup (bandT x))) c (.tup (bandT y))) t = none) :
    Same H (upd (upd (upd H b (.tup (bandT x))) c (.tup (bandT y))) t (.tup [.ref b, .ref c])) ∧ BandsAt (upd (upd (upd H b (.tup (bandT x))) c (.tup (bandT y))) t (.tup [.ref b, .ref c])) t [x, y] := by
  refine ⟨((same_new hb).trans (same_new hc)).trans (same_new ht), [b, c], upd_same, rfl, fun i r d hr hd => ?_⟩
  match i, hr, hd with
  | 0, hr, hd =>
    cases hr
    cases hd
    exact same_new ht _ _ (same_new hc _ _ upd_same)
  | 1, hr, hd =>
    cases hr
    cases hd
    exact same_new ht _ _ upd_same
  | i + 2, hr, hd => cases hr
/-! ### lists of ints, of truths, compared -/
/-! ### ascending starts -/
structure Starts (ss : List Int) : Prop where
  first : ss[0]? = some 0
  rises : ∀ (i : Nat) x y, ss[i]? = some x → ss[i + 1]? = some y → x < y
  most : ∀ s ∈ ss, s ≤ 10 ^ 29
theorem starts_one : Starts [0] where
  first := rfl
  rises := fun i x y h h' => by cases h'
  most := fun s hs => by rw [List.mem_singleton.mp hs]; decide
theorem Starts.len {ss : List Int} (h : Starts ss) : 1 ≤ ss.length := (List.getElem?_eq_some_iff.mp h.first).1
theorem Starts.last {ss : List Int} (h : Starts ss) : ∃ x, ss.getLast? = some x := by
  have := h.len
  exact ⟨_, List.getLast?_eq_getLast (by intro z; rw [z] at this; simp at this)⟩
theorem Starts.snoc {ss : List Int} {x m : Int} (h : Starts ss) (hx : ss.getLast? = some x) (m0 : 0 < m) (m1 : x + m ≤ 10 ^ 29) : Starts (ss ++ [x + m]) where
  first := by
    rw [List.getElem?_append_left h.len]
    exact h.first
  rises := fun i y z hy hz => by
    have hl := (List.getElem?_eq_some_iff.mp hz).1
    rw [List.length_append, List.length_singleton] at hl
    rw [List.getElem?_append_left (by omega)] at hy
    by_cases c : i + 1 < ss.length
    · rw [List.getElem?_append_left c] at hz
      exact h.rises i y z hy hz
    · have e : i + 1 = ss.length := by omega
      rw [List.getElem?_append_right (by omega), e, Nat.sub_self] at hz
      have ez : x + m = z := by simpa using hz
      rw [List.getLast?_eq_getElem?, show ss.length - 1 = i by omega, hy] at hx
      have ey : y = x := Option.some.inj hx
      omega
  most := fun s hs => by
    rcases List.mem_append.mp hs with y | y
    · exact h.most s y
    · rw [List.mem_singleton.mp y]
      exact m1
theorem Vt.put {n : Nat} {H : Hp} {a p : Addr} {o : HO} (v : Vt n H a) (h : a ≠ p) : Vt n (upd H p o) a := by
  obtain ⟨x, y, z, e, r⟩ := v
  exact ⟨x, y, z, (upd_ne h).trans e, r⟩
def spStarts : Sp := fun vs H Q _ => ∃ (a : Addr) (most : Int) (small : Bool) (n : Nat), vs = [.ref a, .int most, .bl small] ∧ 1 ≤ most ∧ most ≤ 8 ∧ Vt n H a ∧ n ≤ 800000000 ∧
  ∀ (p : Addr) (ss : List Int) (H' : Hp), H p = none → Fx a H H' → H' p = some (.lst (ss.map V.int)) → Starts ss → ss.length ≤ most.toNat → (small = true → ∀ s ∈ ss, s ≤ 49) → Vt (n + 500) H' a → Q (.ref p) H'
/-- a band over the drawn starts -/
structure BandOk (ss : List Int) (i : Nat) (b : Band) : Prop where
  at_ : ss[i]? = some b.1
  v0 : 0 ≤ b.2.1
  v1 : b.2.1 ≤ 10 ^ 32
  s0 : -1000 ≤ b.2.2
  s1 : b.2.2 ≤ 1000
  ends : ∀ s', ss[i + 1]? = some s' → b.2.2 < 0 → 0 ≤ left1 b (s' - 1)
  last : ss[i + 1]? = none → 0 ≤ b.2.2
/-- the drawn bands -/
def spBands : Sp := fun vs H Q _ => ∃ (a : Addr) (most : Int) (small : Bool) (n : Nat), vs = [.ref a, .int most, .bl small] ∧ 1 ≤ most ∧ most ≤ 8 ∧ Vt n H a ∧ n ≤ 700000000 ∧
  ∀ (t : Addr) (bs : List Band) (H' : Hp), H t = none → Fx a H H' → BandsAt H' t bs → Good bs → bs.length ≤ most.toNat → (small = true → ∀ b ∈ bs, b.1 ≤ 49 ∧ b.2.1 ≤ 10 ^ 6) → Vt (n + 2000) H' a → Q (.ref t) H'
/-- a law's def that is only True -/
def spTrue (n : Nat) : Sp := fun vs H Q _ => ∃ a : Addr, vs = [.ref a] ∧ Vt 0 H a ∧ ∀ H', Fx a H H' → Q (.bl true) H'
def spLaw (K : PySem.W.Frag) : Sp := fun vs H Q _ => ∃ (sc : Addr) (ns : List Int), vs = [.ref sc] ∧ SqL K H sc (ns.map V.int) ∧ ns.length ≤ 63 ∧ ∀ H', Q (.bl true) H'
theorem all_true (n : Nat) : (List.replicate n true).all id = true := by
  rw [List.all_eq_true]
  intro x hx
  rw [(List.mem_replicate.mp hx).2]
  rfl
theorem lap_len {L top : Int} (h0 : 0 ≤ L) (h1 : L ≤ 63) (h2 : 2 ≤ top) (h3 : top ≤ 10) : -(2 ^ 62) ≤ (if (if top < L then top else L) > 2 then (if top < L then top else L) else 2) ∧
    (if (if top < L then top else L) > 2 then (if top < L then top else L) else 2) < 2 ^ 62 ∧ (if (if top < L then top else L) > 2 then (if top < L then top else L) else 2).toNat ≤ 63 := by
  split <;> split <;> omega
end Ev

set_option Elab.async false
set_option linter.all false
set_option maxRecDepth 100000
set_option maxHeartbeats 4000000
namespace Ev
open PySem PySem.Spec PyProof.Rows L2
/-! ### what a rule leaves, place by place -/
theorem Good.mono {bs : List Band} (g : Good bs) {i : Nat} : ∀ (d : Nat) b c, bs[i]? = some b → bs[i + d + 1]? = some c → b.1 < c.1
  | 0, b, c, hb, hc => g.rises i b c hb hc
  | d + 1, b, c, hb, hc => by
    have hl := (List.getElem?_eq_some_iff.mp hc).1
    have h1 : bs[i + d + 1]? = some (bs[i + d + 1]'(by omega)) := List.getElem?_eq_getElem _
    have h2 := Good.mono g d b _ hb h1
    have h3 := g.rises (i + d + 1) _ c h1 hc
    omega
theorem Good.lt {bs : List Band} (g : Good bs) {i j : Nat} {b c : Band} (h : i < j) (hb : bs[i]? = some b) (hc : bs[j]? = some c) : b.1 < c.1 := by
  have e : i + (j - i - 1) + 1 = j := by omega
  exact g.mono (j - i - 1) b c hb (by rw [e]; exact hc)
/-- by the band at this place -/
theorem leftOf_at {bs : List Band} (g : Good bs) {j : Nat} {b : Band} {x : Int} (hb : bs[j]? = some b) (h0 : b.1 ≤ x) (h1 : ∀ c, bs[j + 1]? = some c → x < c.1) : leftOf bs x = left1 b x := by
  have hj := (List.getElem?_eq_some_iff.mp hb).1
  have e : bs.filter (fun b => decide (b.1 ≤ x)) = (bs.take j).filter (fun b => decide (b.1 ≤ x)) ++ [b] := by
    have e1 : bs = bs.take j ++ (b :: bs.drop (j + 1)) := by
      have h2 : bs.drop j = b :: bs.drop (j + 1) := by
        rw [List.drop_eq_getElem_cons hj]
        congr 1
        rw [List.getElem?_eq_getElem hj] at hb
        exact Option.some.inj hb
      rw [← h2, List.take_append_drop]
    have e2 : (bs.drop (j + 1)).filter (fun b => decide (b.1 ≤ x)) = [] := by
      rw [List.filter_eq_nil_iff]
      intro c hc
      obtain ⟨k, hk⟩ := List.mem_iff_getElem?.mp hc
      rw [List.getElem?_drop] at hk
      have : x < c.1 := by
        by_cases k0 : k = 0
        · subst k0
          exact h1 c hk
        · have hl := (List.getElem?_eq_some_iff.mp hk).1
          have hn : bs[j + 1]? = some (bs[j + 1]'(by omega)) := List.getElem?_eq_getElem _
          have := h1 _ hn
          have := g.lt (by omega : j + 1 < j + 1 + k) hn hk
          omega
      simp
      omega
    have h3 : decide (b.1 ≤ x) = true := decide_eq_true h0
    conv => lhs; rw [e1]
    rw [List.filter_append, List.filter_cons, if_pos h3, e2]
  unfold leftOf
  rw [e, List.getLast?_append]
  rfl
/-- the band that an income is in -/
theorem Good.find {bs : List Band} (g : Good bs) {x : Int} (x0 : 0 ≤ x) : ∃ (j : Nat) (b : Band), bs[j]? = some b ∧ b.1 ≤ x ∧ ∀ c, bs[j + 1]? = some c → x < c.1 := by
  have hl := g.len1
  have key : ∀ (n k : Nat), k + n = bs.length → (∀ b, bs[k]? = some b → b.1 ≤ x) → k < bs.length → ∃ (j : Nat) (b : Band), bs[j]? = some b ∧ b.1 ≤ x ∧ ∀ c, bs[j + 1]? = some c → x < c.1 := by
    intro n
    induction n with
    | zero => intro k h1 _ h2; omega
    | succ n ih =>
      intro k h1 h2 h3
      have hk : bs[k]? = some bs[k] := List.getElem?_eq_getElem h3
      by_cases c : k + 1 < bs.length
      · have hk1 : bs[k + 1]? = some bs[k + 1] := List.getElem?_eq_getElem c
        by_cases d : bs[k + 1].1 ≤ x
        · exact ih (k + 1) (by omega) (fun b hb => by rw [hk1] at hb; cases hb; exact d) c
        · refine ⟨k, _, hk, h2 _ hk, fun e he => ?_⟩
          rw [hk1] at he
          cases he
          omega
      · refine ⟨k, _, hk, h2 _ hk, fun e he => ?_⟩
        rw [List.getElem?_eq_none (by omega)] at he
        cases he
  exact key bs.length 0 (by omega) (fun b hb => by rw [g.first b hb]; exact x0) (by omega)
theorem Good.left_nonneg {bs : List Band} (g : Good bs) {x : Int} (x0 : 0 ≤ x) : 0 ≤ leftOf bs x := by
  obtain ⟨j, b, hb, h0, h1⟩ := g.find x0
  rw [leftOf_at g hb h0 h1]
  have v := g.value b (List.mem_of_getElem? hb)
  unfold left1
  by_cases s : 0 ≤ b.2.2
  · have := Int.mul_nonneg s (by omega : 0 ≤ x - b.1)
    omega
  · cases hc : bs[j + 1]? with
    | none =>
      have := g.last j b hb hc
      omega
    | some c =>
      have e := g.ends j b c hb hc (by omega)
      have lt := h1 c hc
      unfold left1 at e
      have : b.2.2 * (c.1 - 1 - b.1) ≤ b.2.2 * (x - b.1) := Int.mul_le_mul_of_nonpos_left (by omega) (by omega)
      omega
def spRight : Sp := fun vs H Q _ => ∃ a : Addr, vs = [.ref a] ∧ Vt 0 H a ∧ ∀ H', Fx a H H' → Q (.bl true) H'
/-- income by income -/
def walked (bs : List Band) (n : Nat) : List Int := (List.range n).map fun (x : Nat) => leftOf bs (x : Int)
def spWalked : Sp := fun vs H Q _ => ∃ (t : Addr) (bs : List Band) (most : Nat), vs = [.ref t, .int most] ∧ BandsAt H t bs ∧ Good bs ∧ most ≤ 1000 ∧
  ∀ (p : Addr) (H' : Hp), H p = none → Same H H' → H' p = some (.lst ((walked bs (most + 1)).map V.int)) → Q (.ref p) H'
end Ev
namespace Ev
open PySem PySem.Spec PyProof.Rows L2
end Ev

set_option Elab.async false
set_option linter.all false
set_option maxRecDepth 100000
set_option maxHeartbeats 4000000
namespace Ev
open PySem PySem.Spec PyProof.Rows L2
/-! ### promises that hold where no repr is under way: they may show lists and tuples -/
/-- no repr is under way -/
def Un0 (A : Around) : Prop := A.guards = some []
structure FnG (P : Program) (w : World) (K : PySem.W.Frag) (mg : Str → Option Value) (base : Heap) (k : Nat) (f : Addr) (fd : FuncData) (ps : List Str) (sp : Sp) : Prop where
  len : ∀ vs H Q E, sp vs H Q E → vs.length = ps.length
  run : ∀ (A : Around) (outer : List Env) (s : Shared) (H : Hp) (args : Args) (us : List Value) (vs : List V) (Q : VK) (E : XK), Room k A → Un0 A → Env0 P w K mg base A outer s H → BindsTo s fd args (ps.zip us) → Vals vs us → sp vs H Q E →
    codeAny (model P w) A (.call (.ref f) args) (CR CX0 outer P w H s Q E) s
def GDef (P : Program) (w : World) (K : PySem.W.Frag) (mg : Str → Option Value) (base : Heap) (x : Str) (ps : List Str) (k : Nat) (sp : Sp) : Prop :=
  ∃ f fd, mg x = some (.ref f) ∧ PySem.W.keepIn K (.ref f) = true ∧ Binds K fd ps [] ∧ FnG P w K mg base k f fd ps sp
theorem un0_deeper {A : Around} {env : Env} (h : Un0 A) : Un0 (A.deeper env) := h
section
variable {P : Program} {w : World} {K : PySem.W.Frag} {mg : Str → Option Value} {base : Heap}
theorem Fun.okG {x qual : Str} {st : Stmt} {f : Addr} {fd : FuncData} {N ps : List Str} {k : Nat} {sp : Sp} (F : Fun K x qual st f fd) (S : FnScope N ps (defScope st)) (len : ∀ vs H Q E, sp vs H Q E → vs.length = ps.length)
    (hbody : ∀ (cdv : Value) (A : Around) (outer : List Env) (s : Shared) (H : Hp) (vs : List V) (Q : VK) (E : XK), Room k (A.deeper (envOfC qual (defScope st) s.heap.objs.size f cdv)) → Un0 (A.deeper (envOfC qual (defScope st) s.heap.objs.size f cdv)) → sp vs H Q E →
      ∃ t, PSs (cxOf CX0 P w K mg base N qual (defScope st) f cdv A outer s H E).nox (defBody st) t ∧ t { nx := fun _ H' => Q .non H', rt := Q } (start N vs) H) : FnG P w K mg base (k + 1) f fd ps sp := by
  obtain ⟨oc, od, kV, doc, pm, an, cdv, ct, osl, rfl, lk, hcd⟩ := F.ex
  refine ⟨len, fun A outer s H args us vs Q E hr h0 e0 hb r hsp => ?_⟩
  have fits := len _ _ _ _ hsp
  have up : ∀ b o, base.get? b = some o → s.heap.get? b = some o := fun b o e => (e0.bs b o e).1
  have kin := e0.mod.kin.keeps up
  have lim := e0.mod.nolimit.keeps up
  have kinds : ∀ y ∈ ps.zip us, (defScope st).names.lookup y.1 = some .local ∨ ((defScope st).names.lookup y.1 = some .cell ∧ ((cellsFrom (s.heap.objs.size + 1) (defScope st).names []).lookup y.1).isSome = true) := by
    rintro ⟨n, v⟩ hy
    have hn : n ∈ ps := (List.of_mem_zip hy).1
    exact (S.par n hn).imp id fun q => ⟨q, PySem.W.cellsFrom_some _ _ _ (.inl q)⟩
  have hcode := PySem.W.codeRec_of kin hcd
  refine codeAny_call_function hr.depth (kin _ _ lk) rfl S.co S.gen rfl hcode (hb _ _ _ _ ?_)
  refine wpAny_newFunctionEnv_cells S.kind kinds fun env he s1 inn => ?_
  subst he
  obtain ⟨t, ht, hq⟩ := hbody cdv A outer s H vs Q E (hr.deeper _) (un0_deeper h0) hsp
  have I := inv_start (CX := CX0) (P := P) (w := w) (E := E) S hr.hd e0 fits r inn
  refine ⟨lim.keeps inn.toInCall.keep, codeAny_func (wpAny_mono (ht.nox.run [] s1 (start N vs) H _ I hq) ?_ fun _ _ z => z)⟩
  rintro (_ | _ | _ | u) s' hs
  · obtain ⟨σ', H', J, q⟩ := hs
    exact ⟨.non, H', J.os, J.bare, J.base, J.hok, rfl, q⟩
  · obtain ⟨_, _, _, q⟩ := hs
    exact q.elim
  · obtain ⟨_, _, _, q⟩ := hs
    exact q.elim
  · obtain ⟨v, σ', H', J, rv, q⟩ := hs
    exact ⟨v, H', J.os, J.bare, J.base, J.hok, rv, q⟩
end
section
variable {X : Cx} {x : Str} {ps : List Str} {k : Nat} {sp : Sp} {p pos : Pos} {e : Expr} {es : List Expr} {t : TA}
theorem pe_defG (D : GDef X.prog X.w X.K X.mg X.base x ps k sp) (h0 : Un0 X.A) (hr : Room k X.A) (hg : Gl X x) (ha : PA X (e :: es) t) (hdb : (x == ("__debug__" : Str)) = false := by decide)
    (he : starEach (e :: es) X.env = (false, eval e X.env) :: starEach es X.env := by rfl) (hpl : (backTo pos (starEach es X.env)).any (·.1) = false := by rfl) : PE X (.Call (.Name x p) (e :: es) [] pos) (tDef sp t) := by
  obtain ⟨f, fd, hm, kp, b, G⟩ := D
  refine ⟨fun pins s σ H Q I h => wpAny_Call_Name_kw (ld_glob I hg hm (PySem.W.callWith_K (h₀ := X.base) I.ok.mod.kin kp (thn (ha.run pos pins s σ H _ I h) fun us s1 ⟨vs, H1, I1, r, q⟩ => ⟨I1.kIn, ?_⟩) he hpl) hdb)⟩
  have bb := b s1 us I1.kIn (by rw [List.append_nil, ← r.length]; exact G.len _ _ _ _ q)
  rw [List.append_nil] at bb
  refine wpAny_call (codeAny_mono (G.run X.A X.stack s1 H1 _ us vs Q E0 hr h0 I1.env0 bb r q) fun r s' hq => ?_)
  cases r with
  | error e => exact hq.elim
  | ok fl =>
    cases fl with
    | ret u => exact I1.after hq
    | next => exact False.elim hq
    | brk => exact False.elim hq
    | cont => exact False.elim hq
/-- repr(x), x a list or a tuple of data -/
theorem call_repr_data (h0 : Un0 X.A) (hr : Room k X.A) : CallR X (.builtin "repr") (fun xs H Q => ∃ v d, xs = [v] ∧ Dp X.K H v d ∧ isDisplay d = true ∧ d.showable = true ∧ d.hasDict = false ∧ d.depth ≤ 150 ∧ d.shown.length ≤ sizeLine ∧ Q (.str d.shown) H) := by
  intro pins s σ H xs us Q I r h
  obtain ⟨v, d, rfl, hd, h1, h2, h3, h4, h5, q⟩ := h
  obtain ⟨u, rfl, rv⟩ := vals1 r
  obtain ⟨as, hR⟩ := Dp.reads I d v u hd rv
  obtain ⟨a, rfl⟩ := isRef_of_reads hR h1
  exact repr_of_reads' hR h2 (PyData.noDict_hsm h3) h0 (by have := hr.un; omega) (fun _ _ e => e) (fun h' u tk hk => ⟨.str _, H, I.kept hk, ⟨_, rfl⟩, q⟩) h5
end
/-! ### the end, with no repr under way -/
/-- the abstract heap that tracks the script alone -/
def just (a : Addr) (o : HO) : Hp := fun b => if b = a then some o else none
theorem just_self {a : Addr} {o : HO} : just a o a = some o := if_pos rfl
theorem just_at {a b : Addr} {o u : HO} (h : just a o b = some u) : b = a ∧ u = o := by
  by_cases e : b = a
  · rw [just, if_pos e] at h; cases h; exact ⟨e, rfl⟩
  · rw [just, if_neg e] at h; cases h
theorem law_runs {P : Program} {w : World} {K : PySem.W.Frag} {mg mb : Str → Option Value} {k : Nat} {fa a : Addr} {fd : FuncData} {x : Str} {sp : Sp} {s₁ : Shared} {vs : List Value} {ns : List Int} {H : Hp}
    (KX : K.In s₁.heap) (hns : s₁.heap.Ns mainGlobals mg) (hb : s₁.heap.Ns builtinsNs mb) (hbb : ∀ x : Str, x ≠ "__name__" → mb x = bootBuiltins x) (hlim : s₁.heap.NoLimit) (hg : s₁.gens = #[])
    (ha : s₁.heap.get? a = some { cls := .type "list", data := .seq vs.toArray }) (hr : Room k callerA)
    (F : ∀ base : Heap, K.In base → base.Ns mainGlobals mg → FnG P w K mg base k fa fd [x] sp) (hbind : ∀ (s : Shared) (u : Value), BindsTo s fd ⟨[u], []⟩ [(x, u)])
    (hH : ∀ b u, H b = some u → b = a ∧ K.lookup a = none ∧ u = .frz { cls := .type "list", data := .seq vs.toArray } (.lst (ns.map V.int))) (hok : HOk P w H s₁.heap)
    (hsp : sp [.ref a] H (fun v _ => v = .bl true) E0) :
    codeAny (model P w) callerA (.call (.ref fa) ⟨[.ref a], []⟩) (fun r s' => r = .ok (.ret (.bool true)) ∧ OldK s₁.heap s'.heap ∧ s'.os = s₁.os ∧ AllBare s'.gens) s₁ := by
  have notA : ∀ {b : Addr}, b ≠ a → H b = none := fun {b} n => by
    cases q : H b with
    | none => rfl
    | some u => exact absurd (hH b u q).1 n
  have ns0 : ∀ {b : Addr} {m : Str → Option Value}, s₁.heap.Ns b m → (hidT s₁.heap H).Ns b m := by
    rintro b m ⟨o, es, ep, e, d, r⟩
    refine ⟨o, es, ep, hidT_get e (notA fun z => ?_), d, r⟩
    rw [z, ha] at e
    cases e
    cases (show Data.seq vs.toArray _ = Data.dict es ep from d)
  have inK : K.In (hidT s₁.heap H) := fun b o e => hidT_get (KX b o e) <| by
    cases q : H b with
    | none => rfl
    | some u =>
      obtain ⟨rfl, z, _⟩ := hH b u q
      rw [z] at e
      cases e
  have hM : Mod K mg (hidT s₁.heap H) := ⟨inK, ns0 hns, ⟨mb, ns0 hb, hbb⟩, let ⟨mc, h1, h2⟩ := hlim; ⟨mc, ns0 h1, h2⟩⟩
  have e0 : Env0 P w K mg (hidT s₁.heap H) callerA [] s₁ H := ⟨rfl, hM, fun b o e => of_hidT e, Nat.le_of_eq (hidT_size _ _), trivial, fun b z => absurd z (by simp [frs]), hok, .of_eq hg⟩
  refine codeAny_mono ((F _ inK (ns0 hns)).run callerA [] s₁ H ⟨[.ref a], []⟩ [.ref a] [.ref a] _ _ hr rfl e0 (hbind s₁ (.ref a)) (.cons rfl .nil) hsp) fun r s' h => ?_
  rcases r with e | (_ | _ | _ | u)
  · exact h.elim
  · exact False.elim h
  · exact False.elim h
  · exact False.elim h
  · obtain ⟨v, H', os, bare, un, hok', rv, rfl⟩ := h
    obtain rfl : u = Value.bool true := rv
    refine ⟨rfl, OldK.of_keep fun b o e => ?_, os, bare⟩
    cases q : H b with
    | none => exact un.keep b o e q (by simp [frs]) (by simp)
    | some u =>
      obtain ⟨rfl, _, rfl⟩ := hH b u q
      have e1 := (hok' _ _ (un.frzs _ _ _ q)).1
      rw [ha] at e
      cases e
      exact e1
theorem law_callG {P : Program} {w : World} {K : PySem.W.Frag} {mg mb : Str → Option Value} {k : Nat} {fa a : Addr} {fd : FuncData} {x : Str} {sp : Sp} {s₁ : Shared} {vs : List Value} {ns : List Int}
    (KX : K.In s₁.heap) (hns : s₁.heap.Ns mainGlobals mg) (hb : s₁.heap.Ns builtinsNs mb) (hbb : ∀ x : Str, x ≠ "__name__" → mb x = bootBuiltins x) (hlim : s₁.heap.NoLimit) (hg : s₁.gens = #[])
    (ha : s₁.heap.get? a = some { cls := .type "list", data := .seq vs.toArray }) (hi : IntsAre vs ns) (hl : ns.length ≤ sizeLine) (hr : Room k callerA)
    (F : ∀ base : Heap, K.In base → base.Ns mainGlobals mg → FnG P w K mg base k fa fd [x] sp) (hbind : ∀ (s : Shared) (u : Value), BindsTo s fd ⟨[u], []⟩ [(x, u)])
    (hsp : ∀ H : Hp, SqL K H a (ns.map V.int) → sp [.ref a] H (fun v _ => v = .bl true) E0) :
    codeAny (model P w) callerA (.call (.ref fa) ⟨[.ref a], []⟩) (fun r s' => r = .ok (.ret (.bool true)) ∧ OldK s₁.heap s'.heap ∧ s'.os = s₁.os ∧ AllBare s'.gens) s₁ := by
  have rv := vals_ints hi
  cases hk : K.lookup a with
  | some o =>
    have e := KX a o hk
    rw [ha] at e
    cases e
    refine law_runs (ns := ns) (H := fun _ => none) KX hns hb hbb hlim hg ha hr F hbind (fun b u z => nomatch (show (none : Option HO) = some u from z)) (fun b u z => nomatch (show (none : Option HO) = some u from z)) (hsp _ (.inr ⟨_, vs.toArray, _, hk, rfl, rfl, rfl, ?_, by simpa using rv⟩))
    rw [List.size_toArray, hi.length]
    exact hl
  | none =>
    refine law_runs (ns := ns) (H := just a (.frz { cls := .type "list", data := .seq vs.toArray } (.lst (ns.map V.int)))) KX hns hb hbb hlim hg ha hr F hbind (fun b u z => ⟨(just_at z).1, hk, (just_at z).2⟩) (fun b u z => ?_) (hsp _ (.inl (.inr ⟨_, just_self⟩)))
    obtain ⟨rfl, rfl⟩ := just_at z
    exact ⟨ha, by rw [List.length_map]; exact hl, vs, _, rv, ha⟩
theorem walk_ofG {l : PySem.W.OpenLaw} {n k : Nat} {q : Program} {loose : List Str} {XP : (Str → Option Value) → Heap → Prop} {YP : World → Heap → Prop} {d : DefRec} {x : Str}
    (hn : l.most = some n) (hn2 : n ≤ sizeLine) (hdf : d.params.defaults = []) (hr : Room k callerA)
    (F : ∀ (w : World) (mg : Str → Option Value) (fa : Addr) (h : Heap), YP w h → h.Ns mainGlobals mg → mg d.name = some (.ref fa) →
      ∃ (K : PySem.W.Frag) (fd : FuncData) (sp : Sp), K.In h ∧ (∀ (s : Shared) (u : Value), BindsTo s fd ⟨[u], []⟩ [(x, u)]) ∧
        (∀ (H : Hp) (a : Addr) (ns : List Int), ns.length ≤ n → SqL K H a (ns.map V.int) → sp [.ref a] H (fun v _ => v = .bl true) E0) ∧
        ∀ base : Heap, K.In base → base.Ns mainGlobals mg → FnG l.prog w K mg base k fa fd [x] sp) :
    PySem.W.WalkO q loose XP YP l.row.toRowW d [] (fun f vs => PySem.call f vs) := by
  refine Att.attach_call hn hdf fun w s₀ s₁ mg mb fa o pm cd doc a vs ns G Y ho hd hcd hmg hobj hints hlen hg => ?_
  obtain ⟨K, fd, sp, KX, hb, hsp, hF⟩ := F w mg fa _ Y G.T.g hmg
  exact law_callG KX G.T.g G.T.b G.T.builtins G.T.nolimit hg hobj hints (Nat.le_trans hlen hn2) hr hF hb fun H hS => hsp H a ns hlen hS
end Ev

set_option Elab.async false
set_option linter.all false
set_option maxRecDepth 100000
set_option maxHeartbeats 4000000
namespace EvH
open PySem PySem.Spec PyProof.Rows L2 He
/-! ### the head's facts, with getters of properties and one truth more -/
/-- a property: its class, its name, its getter's text -/
structure PropD where
  cls : Str
  fld : Str
  qual : Str
  params : Arguments
  body : List Stmt
  scope : Scope
  cm : Bool
def pAd (K : PySem.W.Frag) (d : PropD) : Addr := ma K (ga K d.cls) d.fld
def gAd (K : PySem.W.Frag) (d : PropD) : Addr := match PySem.W.recIn K (pAd K d) (if d.cm then "classmethod" else "property") with
  | some (.ref g :: _) => g
  | _ => 0
def fnAt (K : PySem.W.Frag) (g : Addr) : FnW := match K.lookup g with
  | some ⟨_, _, .func fd, _⟩ => some (fd.name, fd.qualname, fd.params, fd.body, fd.scope, fd.globals, fd.closure, fd.builtins)
  | _ => none
def PropD.val (d : PropD) : FnW := some (d.fld, d.qual, d.params, .stmts d.body, d.scope, mainGlobals, [], builtinsNs)
def PropD.ok (K : PySem.W.Frag) (d : PropD) : Bool :=
  (match d.cm with
  | true => He5.wrapB K (ga K d.cls) "classmethod" "classmethod.__get__" d.fld && PySem.W.fnIn K (gAd K d)
  | false => eqO (PySem.W.findIn K (.ref (ga K d.cls)) d.fld) (some (some (.ref (pAd K d)))) && (decide (PySem.W.specialIn K (.ref (pAd K d)) "__get__" = some (some (.builtin "property.__get__"))) &&
    (decide (PySem.W.takesIn K (.ref (pAd K d)) = some true) && (match PySem.W.recIn K (pAd K d) "property" with
      | some (.ref g :: _) => decide (g = gAd K d)
      | _ => false)))) &&
  (PySem.W.keepIn K (.ref (gAd K d)) && (match K.lookup (gAd K d) with
    | some ⟨_, _, .func fd, _⟩ => PySem.W.codeIn K fd.code d.qual && (match fd.defaults with
      | .none => true
      | _ => false)
    | _ => false))
theorem PropD.prop {K : PySem.W.Frag} {d : PropD} (hc : d.cm = false) (c : d.ok K = true) : PropOf K (ga K d.cls) d.fld (pAd K d) (gAd K d) := by
  obtain ⟨c, _⟩ := ba c
  rw [hc] at c
  obtain ⟨c1, c⟩ := ba c
  obtain ⟨c2, c⟩ := ba c
  obtain ⟨c3, c4⟩ := ba c
  refine ⟨eqO_ok c1, of_decide_eq_true c2, of_decide_eq_true c3, ?_⟩
  cases e : PySem.W.recIn K (pAd K d) "property" with
  | none =>
    rw [e] at c4
    cases c4
  | some l =>
    rw [e] at c4
    cases l with
    | nil => cases c4
    | cons x r =>
      cases x with
      | ref g =>
        have eg : g = gAd K d := of_decide_eq_true c4
        exact ⟨r, by rw [eg]⟩
      | _ => cases c4
theorem PropD.fn {K : PySem.W.Frag} {d : PropD} (e : fnAt K (gAd K d) = d.val) (c : d.ok K = true) : ∃ (oc : Value) (od : Option Addr) (kV doc pm : Value) (an : Option Addr) (cdv ct : Value) (osl : Array (Option Value)),
    K.lookup (gAd K d) = some ⟨oc, od, .func (PySem.W.fnOf d.fld d.qual d.params d.body d.scope .none kV doc pm an cdv ct), osl⟩ ∧ PySem.W.codeIn K cdv d.qual = true ∧ PySem.W.keepIn K (.ref (gAd K d)) = true := by
  obtain ⟨_, c⟩ := ba c
  obtain ⟨kp, c2⟩ := ba c
  unfold fnAt at e
  cases q : K.lookup (gAd K d) with
  | none =>
    rw [q] at c2
    cases c2
  | some o =>
    obtain ⟨oc, od, dt, osl⟩ := o
    rw [q] at c2 e
    cases dt with
    | func fd =>
      obtain ⟨n1, n2, n3, n4, n5, n6, n7, n8, n9, n10, n11, n12, n13, n14, n15⟩ := fd
      have e2 : (some (n1, n2, n3, n4, n5, n6, n7, n15) : FnW) = some (d.fld, d.qual, d.params, .stmts d.body, d.scope, mainGlobals, [], builtinsNs) := e
      simp only [Option.some.injEq, Prod.mk.injEq] at e2
      obtain ⟨h1, h2, h3, h4, h5, h6, h7, h8⟩ := e2
      subst h1 h2 h3 h4 h5 h6 h7 h8
      obtain ⟨k1, k2⟩ := ba c2
      cases n8 with
      | none => exact ⟨oc, od, n9, n10, n11, n12, n13, n14, osl, rfl, k1, kp⟩
      | _ => cases k2
    | _ => cases c2
/-- the objects that the top names, and the table of what is fixed -/
def asP (g : Addr → Option Obj) (n : Nat) : List Addr := asD g n ++ [cStatics]
abbrev AlP : Type := AlD × (Bool × List FnW)
def obsP (fa : List Fa) (fn : List DefD) (pn : List PropD) (ex : PySem.W.Frag → Bool) (K : PySem.W.Frag) : AlP := (obsD fa fn K, ((pn.all fun d => d.ok K) && ex K, pn.map fun d => fnAt K (gAd K d)))
def valP (fn : List DefD) (pn : List PropD) : AlP := (valD fn, (true, pn.map PropD.val))
structure SaysP (fa : List Fa) (fn : List DefD) (pn : List PropD) (ex : PySem.W.Frag → Bool) (K : PySem.W.Frag) : Prop where
  d : SaysD fa fn K
  p : ∀ d ∈ pn, d.ok K = true ∧ fnAt K (gAd K d) = d.val
  x : ex K = true
theorem saysP_of {fa : List Fa} {fn : List DefD} {pn : List PropD} {ex : PySem.W.Frag → Bool} {K : PySem.W.Frag} (e : obsP fa fn pn ex K = valP fn pn) : SaysP fa fn pn ex K := by
  have e1 : obsD fa fn K = valD fn := congrArg (fun z : AlP => z.1) e
  have e2 : ((pn.all fun d => d.ok K) && ex K) = true := congrArg (fun z : AlP => z.2.1) e
  have e3 : (pn.map fun d => fnAt K (gAd K d)) = pn.map PropD.val := congrArg (fun z : AlP => z.2.2) e
  obtain ⟨a1, a2⟩ := ba e2
  refine ⟨e1, fun d hd => ⟨List.all_eq_true.mp a1 d hd, ?_⟩, a2⟩
  exact List.map_inj_left.mp e3 d hd
def hookP (n : Nat) (fa : List Fa) (fn : List DefD) (pn : List PropD) (ex : PySem.W.Frag → Bool) : PySem.W.Hook where
  α := AlP
  obs := fun s => obsP fa fn pn ex (frG s.heap.get? (asP s.heap.get? n))
  val := fun _ => valP fn pn
  says := fun _ h => ∃ K : PySem.W.Frag, K.In h ∧ SaysP fa fn pn ex K
  of := fun _ _ e => ⟨_, frG_in, saysP_of e⟩
  keeps := fun _ _ _ ⟨K, hK, c⟩ k => ⟨K, PySem.W.Frag.In.keeps hK k, c⟩
/-- the same facts, read off a tree that is laid of the heap once -/
def hookPT (n : Nat) (fa : List Fa) (fn : List DefD) (pn : List PropD) (ex : PySem.W.Frag → Bool) : PySem.W.Hook where
  α := Option AlP
  obs := fun s => (HandSHeadRun.treeOf s).map fun x => HandSHeadRun.frS x fun x => obsP fa fn pn ex (frG (HandSHeadRun.getT x) (asP (HandSHeadRun.getT x) n))
  val := fun _ => some (valP fn pn)
  says := fun _ h => ∃ K : PySem.W.Frag, K.In h ∧ SaysP fa fn pn ex K
  of := fun _ s e => by
    obtain ⟨x, hx, e2⟩ := Option.map_eq_some_iff.mp e
    rw [HandSHeadRun.frS_eq] at e2
    obtain ⟨rfl, _⟩ := HandSHeadRun.treeOf_eq hx
    have eg : HandSHeadRun.getT x = x.abs.heap.get? := funext (HandSHeadRun.getT_eq x)
    rw [eg] at e2
    exact ⟨_, frG_in, saysP_of e2⟩
  keeps := fun _ _ _ ⟨K, hK, c⟩ k => ⟨K, PySem.W.Frag.In.keeps hK k, c⟩
/-- a def of no defaults as Words has it -/
theorem fun_of {K : PySem.W.Frag} {x qual : Str} {st : Stmt} {kws : List (Str × V)} {f : Addr} {fd : FuncData} (F : FunD K x qual (defArgs st) (defBody st) (defScope st) [] kws f fd) : Fun K x qual st f fd := by
  obtain ⟨⟨oc, od, dV, kV, doc, pm, an, cdv, ct, osl, rfl, lk, hcd, hD, _⟩, kp⟩ := F
  rcases hD with ⟨_, rfl⟩ | ⟨e, _⟩
  · exact ⟨⟨oc, od, kV, doc, pm, an, cdv, ct, osl, rfl, lk, hcd⟩, kp⟩
  · exact absurd rfl e
/-- isinstance of an own class's instance against the class itself -/
def insB (x : Str) (K : PySem.W.Frag) : Bool :=
  decide (PySem.W.findIn K (.ref (ga K x)) "__class__" = some (some (.builtin "object.__class__"))) && (decide (PySem.W.specialIn K (.builtin "object.__class__") "__get__" = some (some (.builtin "getset_descriptor.__get__"))) &&
    (decide (PySem.W.takesIn K (.builtin "object.__class__") = some true) && (decide (PySem.W.mroIn K (ga K x) (.type "object") = some true) && decide (PySem.W.kitOne K (.ref (ga K x)) (.ref (ga K x)) = some true))))
theorem ins_of {x : Str} {K : PySem.W.Frag} (c : Cls K (ga K x)) (h : insB x K = true) : C8.InsC K (ga K x) := by
  obtain ⟨h1, h⟩ := ba h
  obtain ⟨h2, h⟩ := ba h
  obtain ⟨h3, h⟩ := ba h
  obtain ⟨h4, h5⟩ := ba h
  exact ⟨c, of_decide_eq_true h1, of_decide_eq_true h2, of_decide_eq_true h3, of_decide_eq_true h4, of_decide_eq_true h5⟩
/-- attributes of an own class are read as a class's -/
def readB (x : Str) (K : PySem.W.Frag) : Bool := PySem.W.readsIn K (ga K x) (.type "type") && decide (PySem.W.specialIn K (.ref (ga K x)) "__getattribute__" = some (some (.builtin "type.__getattribute__")))
theorem read_of {x : Str} {K : PySem.W.Frag} (h : readB x K = true) : ClX.CRead K (ga K x) (.type "type") := by
  obtain ⟨h1, h2⟩ := ba h
  exact ⟨h1, of_decide_eq_true h2⟩
/-- != of an own class is object's -/
def neB (x : Str) (K : PySem.W.Frag) : Bool := decide (PySem.W.findIn K (.ref (ga K x)) "__ne__" = some (some (.builtin "object.__ne__")))
end EvH
namespace EvH
open PySem PySem.Spec PyProof.Rows L2 He
/-- a name of the top that holds a built-in -/
def gblB (x : Str) (b : String) (K : PySem.W.Frag) : Bool := eqO (PySem.W.nsIn K mainGlobals x) (some (some (.builtin b)))
end EvH

set_option Elab.async false
set_option linter.all false
set_option maxRecDepth 100000
set_option maxHeartbeats 4000000
namespace EvH
open PySem PySem.Spec PyProof.Rows L2 He
/-! ### the head's facts, with tables of the module that have text keys -/
abbrev AlPD : Type := AlP × List (Option (List (Option (Str × Int))))
def obsPD (fa : List Fa) (fn : List DefD) (pn : List PropD) (ex : PySem.W.Frag → Bool) (ts : List He.Tab) (K : PySem.W.Frag) : AlPD := (obsP fa fn pn ex K, ts.map fun t => dicW K (t.1 K))
def valPD (fn : List DefD) (pn : List PropD) (ts : List He.Tab) (w : World) : AlPD := (valP fn pn, ts.map fun t => some (keysIn w.params t.2))
structure SaysPD (fa : List Fa) (fn : List DefD) (pn : List PropD) (ex : PySem.W.Frag → Bool) (ts : List He.Tab) (w : World) (K : PySem.W.Frag) : Prop where
  p : SaysP fa fn pn ex K
  t : ∀ x ∈ ts, ∃ es n, KDict K w (x.1 K) es n
theorem saysPD_of {fa : List Fa} {fn : List DefD} {pn : List PropD} {ex : PySem.W.Frag → Bool} {ts : List He.Tab} {w : World} {K : PySem.W.Frag} (e : obsPD fa fn pn ex ts K = valPD fn pn ts w) : SaysPD fa fn pn ex ts w K := by
  have e1 : obsP fa fn pn ex K = valP fn pn := congrArg (fun z : AlPD => z.1) e
  have e2 : (ts.map fun t => dicW K (t.1 K)) = ts.map fun t => some (keysIn w.params t.2) := congrArg (fun z : AlPD => z.2) e
  exact ⟨saysP_of e1, fun x hx => dicW_ok (List.map_inj_left.mp e2 x hx)⟩
def hookPD (n : Nat) (fa : List Fa) (fn : List DefD) (pn : List PropD) (ex : PySem.W.Frag → Bool) (ts : List He.Tab) : PySem.W.Hook where
  α := AlPD
  obs := fun s => obsPD fa fn pn ex ts (frG s.heap.get? (asP s.heap.get? n))
  val := fun w => valPD fn pn ts w
  says := fun w h => ∃ K : PySem.W.Frag, K.In h ∧ SaysPD fa fn pn ex ts w K
  of := fun _ _ e => ⟨_, frG_in, saysPD_of e⟩
  keeps := fun _ _ _ ⟨K, hK, c⟩ k => ⟨K, PySem.W.Frag.In.keeps hK k, c⟩
/-- the same, read off a tree that is laid of the heap once -/
def hookPDT (n : Nat) (fa : List Fa) (fn : List DefD) (pn : List PropD) (ex : PySem.W.Frag → Bool) (ts : List He.Tab) : PySem.W.Hook where
  α := Option AlPD
  obs := fun s => (HandSHeadRun.treeOf s).map fun x => HandSHeadRun.frS x fun x => obsPD fa fn pn ex ts (frG (HandSHeadRun.getT x) (asP (HandSHeadRun.getT x) n))
  val := fun w => some (valPD fn pn ts w)
  says := fun w h => ∃ K : PySem.W.Frag, K.In h ∧ SaysPD fa fn pn ex ts w K
  of := fun _ s e => by
    obtain ⟨x, hx, e2⟩ := Option.map_eq_some_iff.mp e
    rw [HandSHeadRun.frS_eq] at e2
    obtain ⟨rfl, _⟩ := HandSHeadRun.treeOf_eq hx
    have eg : HandSHeadRun.getT x = x.abs.heap.get? := funext (HandSHeadRun.getT_eq x)
    rw [eg] at e2
    exact ⟨_, frG_in, saysPD_of e2⟩
  keeps := fun _ _ _ ⟨K, hK, c⟩ k => ⟨K, PySem.W.Frag.In.keeps hK k, c⟩
/-- the same, over these addresses alone -/
def hookPDL (as : List Addr) (fa : List Fa) (fn : List DefD) (pn : List PropD) (ex : PySem.W.Frag → Bool) (ts : List He.Tab) : PySem.W.Hook where
  α := Option AlPD
  obs := fun s => (HandSHeadRun.treeOf s).map fun x => HandSHeadRun.frS x fun x => obsPD fa fn pn ex ts (frG (HandSHeadRun.getT x) as)
  val := fun w => some (valPD fn pn ts w)
  says := fun w h => ∃ K : PySem.W.Frag, K.In h ∧ SaysPD fa fn pn ex ts w K
  of := fun w s e => by
    obtain ⟨x, hx, e2⟩ := Option.map_eq_some_iff.mp e
    rw [HandSHeadRun.frS_eq] at e2
    obtain ⟨rfl, _⟩ := HandSHeadRun.treeOf_eq hx
    have eg : HandSHeadRun.getT x = x.abs.heap.get? := funext (HandSHeadRun.getT_eq x)
    rw [eg] at e2
    exact ⟨_, frG_in, saysPD_of e2⟩
  keeps := fun _ _ _ ⟨K, hK, c⟩ k => ⟨K, PySem.W.Frag.In.keeps hK k, c⟩
/-- the table's values are these defs -/
def dctB (x : Str) (kvs : List (Str × Str)) (K : PySem.W.Frag) : Bool := kvs.all fun q => eqO (PySem.W.nsIn K (ga K x) q.1) (some (some (.ref (ga K q.2))))
def chkT : List (Str × Str) := [("more", "accepts_more"), ("not more", "accepts_not_more"), ("even", "accepts_even"), ("uneven", "accepts_uneven"), ("gifts", "accepts_gifts")]
def chkTs : List He.Tab := [(fun K => ga K "CHECKS", chkT.map (·.1))]
end EvH

set_option Elab.async false
set_option linter.all false
set_option maxRecDepth 100000
set_option maxHeartbeats 4000000
namespace Ev
open PySem PySem.Spec PyProof.Rows L2
def top (i : Nat) : Stmt := PySem.Challenge.pw_evenedshares_k91_known_certificates.main.body.getD i (.Pass ⟨0, 0, 0, 0⟩)
/-- what the top holds of names that the text leaves to the built-ins, and of its own ints -/
structure Txt (K : PySem.W.Frag) (mg : Str → Option Value) (C CP : Addr) : Prop where
  g_Rule : mg "Rule" = some (.ref C)
  cl : Cls K C
  nb : NoAttr K C "_bands"
  ins : C8.InsC K C
  rd : ClX.CRead K C (.type "type")
  ne : PySem.W.findIn K (.ref C) "__ne__" = some (some (.builtin "object.__ne__"))
  mo : PySem.W.mroIn K C (.type "object") = some true
  g_Purse : mg "Purse" = some (.ref CP)
  clP : Cls K CP
  nbP : NoAttr K CP "_kinds"
  insP : C8.InsC K CP
  rdP : ClX.CRead K CP (.type "type")
  neP : PySem.W.findIn K (.ref CP) "__ne__" = some (some (.builtin "object.__ne__"))
  moP : PySem.W.mroIn K CP (.type "object") = some true
  b_len : mg "len" = none
  b_int : mg "int" = none
  b_str : mg "str" = none
  b_bool : mg "bool" = none
  b_tuple : mg "tuple" = none
  b_abs : mg "abs" = none
  b_divmod : mg "divmod" = none
  b_isinstance : mg "isinstance" = none
  b_all : mg "all" = none
  b_min : mg "min" = none
  b_range : mg "range" = none
  b_sorted : mg "sorted" = none
  b_sum : mg "sum" = none
  b_set : mg "set" = none
  b_zip : mg "zip" = none
  b_type : mg "type" = none
  b_enumerate : mg "enumerate" = none
  b_repr : mg "repr" = none
  b_max : mg "max" = none
  b_list : mg "list" = none
  b_dict : mg "dict" = none
  c_MOST_BANDS : ∃ t, mg "MOST_BANDS" = some (.int (8) t)
  c_MOST_STEP : ∃ t, mg "MOST_STEP" = some (.int (1000) t)
  c_MOST_START : ∃ t, mg "MOST_START" = some (.int (10 ^ 29) t)
  c_MOST_INCOME : ∃ t, mg "MOST_INCOME" = some (.int (10 ^ 30) t)
  c_MOST_VALUE : ∃ t, mg "MOST_VALUE" = some (.int (10 ^ 32) t)
  c_MOST_KINDS : ∃ t, mg "MOST_KINDS" = some (.int (30) t)
  c_MOST_AMOUNT : ∃ t, mg "MOST_AMOUNT" = some (.int (10 ^ 36) t)
  c_MOST_COUNT : ∃ t, mg "MOST_COUNT" = some (.int (10 ^ 36 * 10 ^ 36) t)
  c_MOST_DIGITS : ∃ t, mg "MOST_DIGITS" = some (.int (80) t)


abbrev s_is_integer_integers : Stmt := top 12
theorem sc_is_integer_integers : FnScope ["value"] ["value"] (defScope s_is_integer_integers) := ⟨rfl, rfl, rfl, by decide +kernel, rfl, by decide +kernel, by decide +kernel⟩
abbrev s_is_within : Stmt := top 14
theorem sc_is_within : FnScope ["value", "least", "most"] ["value", "least", "most"] (defScope s_is_within) := ⟨rfl, rfl, rfl, by decide +kernel, rfl, by decide +kernel, by decide +kernel⟩
abbrev s_is_value : Stmt := top 31
theorem sc_is_value : FnScope ["value"] ["value"] (defScope s_is_value) := ⟨rfl, rfl, rfl, by decide +kernel, rfl, by decide +kernel, by decide +kernel⟩
abbrev s_is_step : Stmt := top 32
theorem sc_is_step : FnScope ["step"] ["step"] (defScope s_is_step) := ⟨rfl, rfl, rfl, by decide +kernel, rfl, by decide +kernel, by decide +kernel⟩
abbrev s_last_income : Stmt := top 35
theorem sc_last_income : FnScope ["bands", "index"] ["bands", "index"] (defScope s_last_income) := ⟨rfl, rfl, rfl, by decide +kernel, rfl, by decide +kernel, by decide +kernel⟩
abbrev s_is_band : Stmt := top 30
theorem sc_is_band : FnScope ["band", "least", "most", "start", "value", "step"] ["band", "least", "most"] (defScope s_is_band) := ⟨rfl, rfl, rfl, by decide +kernel, rfl, by decide +kernel, by decide +kernel⟩
abbrev s_first_wrong_rules : Stmt := top 28
theorem sc_first_wrong_rules : FnScope ["bands", "least", "most", "index", "band"] ["bands"] (defScope s_first_wrong_rules) := ⟨rfl, rfl, rfl, by decide +kernel, rfl, by decide +kernel, by decide +kernel⟩
abbrev s_first_below : Stmt := top 33
theorem sc_first_below : FnScope ["bands", "index", "start", "value", "step", "last"] ["bands"] (defScope s_first_below) := ⟨rfl, rfl, rfl, by decide +kernel, rfl, by decide +kernel, by decide +kernel⟩
abbrev s_left_by : Stmt := top 36
theorem sc_left_by : FnScope ["bands", "income", "start", "value", "step", "band"] ["bands", "income"] (defScope s_left_by) := ⟨rfl, rfl, rfl, by decide +kernel, rfl, by decide +kernel, by decide +kernel⟩
abbrev s_lines_of_rules : Stmt := top 37
theorem sc_lines_of_rules : FnScope ["bands", "start", "value", "step"] ["bands"] (defScope s_lines_of_rules) := ⟨rfl, rfl, rfl, by decide +kernel, rfl, by decide +kernel, by decide +kernel⟩
abbrev s_read_integer : Stmt := top 15
theorem sc_read_integer : FnScope ["word", "digits"] ["word"] (defScope s_read_integer) := ⟨rfl, rfl, rfl, by decide +kernel, rfl, by decide +kernel, by decide +kernel⟩
abbrev s_band_of : Stmt := top 40
theorem sc_band_of : FnScope ["line", "words"] ["line"] (defScope s_band_of) := ⟨rfl, rfl, rfl, by decide +kernel, rfl, by decide +kernel, by decide +kernel⟩
abbrev s_bands_with : Stmt := top 39
theorem sc_bands_with : FnScope ["text", "lines", "bands", "line"] ["text"] (defScope s_bands_with) := ⟨rfl, rfl, rfl, by decide +kernel, rfl, by decide +kernel, by decide +kernel⟩
abbrev s_Rule___init__ : Stmt := inClass (top 25) 0
theorem sc_Rule___init__ : FnScope ["self", "bands", "wrong"] ["self", "bands"] (defScope s_Rule___init__) := ⟨rfl, rfl, rfl, by decide +kernel, rfl, by decide +kernel, by decide +kernel⟩
abbrev s_Rule_bands : Stmt := inClass (top 25) 2
theorem sc_Rule_bands : FnScope ["self"] ["self"] (defScope s_Rule_bands) := ⟨rfl, rfl, rfl, by decide +kernel, rfl, by decide +kernel, by decide +kernel⟩
abbrev s_Rule___str__ : Stmt := inClass (top 25) 5
theorem sc_Rule___str__ : FnScope ["self"] ["self"] (defScope s_Rule___str__) := ⟨rfl, rfl, rfl, by decide +kernel, rfl, by decide +kernel, by decide +kernel⟩
abbrev s_is_kind : Stmt := top 47
theorem sc_is_kind : FnScope ["kind", "least", "amount", "count"] ["kind", "least"] (defScope s_is_kind) := ⟨rfl, rfl, rfl, by decide +kernel, rfl, by decide +kernel, by decide +kernel⟩
abbrev s_first_wrong_purses : Stmt := top 45
theorem sc_first_wrong_purses : FnScope ["kinds", "least", "index", "kind"] ["kinds"] (defScope s_first_wrong_purses) := ⟨rfl, rfl, rfl, by decide +kernel, rfl, by decide +kernel, by decide +kernel⟩
abbrev s_kind_of : Stmt := top 51
theorem sc_kind_of : FnScope ["line", "words"] ["line"] (defScope s_kind_of) := ⟨rfl, rfl, rfl, by decide +kernel, rfl, by decide +kernel, by decide +kernel⟩
abbrev s_lines_of_purses : Stmt := top 48
theorem sc_lines_of_purses : FnScope ["kinds", "amount", "count"] ["kinds"] (defScope s_lines_of_purses) := ⟨rfl, rfl, rfl, by decide +kernel, rfl, by decide +kernel, by decide +kernel⟩
abbrev s_kinds_with : Stmt := top 50
theorem sc_kinds_with : FnScope ["text", "lines", "kinds", "line"] ["text"] (defScope s_kinds_with) := ⟨rfl, rfl, rfl, by decide +kernel, rfl, by decide +kernel, by decide +kernel⟩
abbrev s_Purse___init__ : Stmt := inClass (top 42) 0
theorem sc_Purse___init__ : FnScope ["self", "kinds", "wrong"] ["self", "kinds"] (defScope s_Purse___init__) := ⟨rfl, rfl, rfl, by decide +kernel, rfl, by decide +kernel, by decide +kernel⟩
abbrev s_Purse_kinds : Stmt := inClass (top 42) 2
theorem sc_Purse_kinds : FnScope ["self"] ["self"] (defScope s_Purse_kinds) := ⟨rfl, rfl, rfl, by decide +kernel, rfl, by decide +kernel, by decide +kernel⟩
abbrev s_Purse___str__ : Stmt := inClass (top 42) 6
theorem sc_Purse___str__ : FnScope ["self"] ["self"] (defScope s_Purse___str__) := ⟨rfl, rfl, rfl, by decide +kernel, rfl, by decide +kernel, by decide +kernel⟩
abbrev s_plain : Stmt := top 26
theorem sc_plain : FnScope [] [] (defScope s_plain) := ⟨rfl, rfl, rfl, by decide +kernel, rfl, by decide +kernel, by decide +kernel⟩
abbrev s_bands_of : Stmt := top 27
theorem sc_bands_of : FnScope ["rule"] ["rule"] (defScope s_bands_of) := ⟨rfl, rfl, rfl, by decide +kernel, rfl, by decide +kernel, by decide +kernel⟩
abbrev s_first_turn : Stmt := top 34
theorem sc_first_turn : FnScope ["bands", "index", "start", "value", "step", "last"] ["bands"] (defScope s_first_turn) := ⟨rfl, rfl, rfl, by decide +kernel, rfl, by decide +kernel, by decide +kernel⟩
abbrev s_left_by_both : Stmt := top 67
theorem sc_left_by_both : FnScope ["bands", "others", "income", "low", "high"] ["bands", "others", "income"] (defScope s_left_by_both) := ⟨rfl, rfl, rfl, by decide +kernel, rfl, by decide +kernel, by decide +kernel⟩
abbrev s_breaks : Stmt := top 68
theorem sc_breaks : FnScope ["left", "low", "high", "other_low", "other_high"] ["left"] (defScope s_breaks) := ⟨rfl, rfl, rfl, by decide +kernel, rfl, by decide +kernel, by decide +kernel⟩
abbrev s_neighbours : Stmt := top 66
theorem sc_neighbours : FnScope ["bands", "others", "starts", "start", "value", "step", "seams", "income"] ["bands", "others"] (defScope s_neighbours) := ⟨rfl, rfl, rfl, by decide +kernel, rfl, by decide +kernel, by decide +kernel⟩
abbrev s_other_bands : Stmt := top 65
theorem sc_other_bands : FnScope ["other"] ["other"] (defScope s_other_bands) := ⟨rfl, rfl, rfl, by decide +kernel, rfl, by decide +kernel, by decide +kernel⟩
abbrev s_ordered_bands : Stmt := top 64
theorem sc_ordered_bands : FnScope ["other", "bands", "turned"] ["other"] (defScope s_ordered_bands) := ⟨rfl, rfl, rfl, by decide +kernel, rfl, by decide +kernel, by decide +kernel⟩
abbrev s_compared : Stmt := top 71
theorem sc_compared : FnScope ["one", "other", "bands"] ["one", "other"] (defScope s_compared) := ⟨rfl, rfl, rfl, by decide +kernel, rfl, by decide +kernel, by decide +kernel⟩
abbrev s_first_broken : Stmt := top 72
theorem sc_first_broken : FnScope ["pairs", "income", "left"] ["pairs"] (defScope s_first_broken) := ⟨rfl, rfl, rfl, by decide +kernel, rfl, by decide +kernel, by decide +kernel⟩
abbrev s_many_above : Stmt := top 73
theorem sc_many_above : FnScope ["left", "low", "high", "other_low", "other_high"] ["left"] (defScope s_many_above) := ⟨rfl, rfl, rfl, by decide +kernel, rfl, by decide +kernel, by decide +kernel⟩
abbrev s_contrary : Stmt := top 70
theorem sc_contrary : FnScope ["one", "other", "broken", "income", "left"] ["one", "other"] (defScope s_contrary) := ⟨rfl, rfl, rfl, by decide +kernel, rfl, by decide +kernel, by decide +kernel⟩
abbrev s_certify_evening : Stmt := top 75
theorem sc_certify_evening : FnScope ["one", "other", "shown", "texts"] ["one", "other"] (defScope s_certify_evening) := ⟨rfl, rfl, rfl, by decide +kernel, rfl, by decide +kernel, by decide +kernel⟩
abbrev s_kinds_of : Stmt := top 44
theorem sc_kinds_of : FnScope ["purse"] ["purse"] (defScope s_kinds_of) := ⟨rfl, rfl, rfl, by decide +kernel, rfl, by decide +kernel, by decide +kernel⟩
abbrev s_kinds_behind : Stmt := top 43
theorem sc_kinds_behind : FnScope ["bands", "incomes", "counts", "income", "count", "left"] ["bands", "incomes"] (defScope s_kinds_behind) := ⟨rfl, rfl, rfl, by decide +kernel, rfl, by decide +kernel, by decide +kernel⟩
abbrev s_ends_of : Stmt := top 61
theorem sc_ends_of : FnScope ["kinds", "ends", "people", "amount", "count"] ["kinds"] (defScope s_ends_of) := ⟨rfl, rfl, rfl, by decide +kernel, rfl, by decide +kernel, by decide +kernel⟩
abbrev s_total_of : Stmt := top 60
theorem sc_total_of : FnScope ["kinds", "amount", "count"] ["kinds"] (defScope s_total_of) := ⟨rfl, rfl, rfl, by decide +kernel, rfl, by decide +kernel, by decide +kernel⟩
abbrev s_lowest_share : Stmt := top 55
theorem sc_lowest_share : FnScope ["kinds", "part", "whole", "people", "total", "pieces", "reached", "amount", "count", "many"] ["kinds", "part", "whole"] (defScope s_lowest_share) := ⟨rfl, rfl, rfl, by decide +kernel, rfl, by decide +kernel, by decide +kernel⟩
abbrev s_first_crossing : Stmt := top 56
theorem sc_first_crossing : FnScope ["kinds", "others", "ends", "whole", "part", "top", "bottom", "other_top", "other_bottom"] ["kinds", "others"] (defScope s_first_crossing) := ⟨rfl, rfl, rfl, by decide +kernel, rfl, by decide +kernel, by decide +kernel⟩
abbrev s_amount_at : Stmt := top 62
theorem sc_amount_at : FnScope ["kinds", "place", "amount", "count", "end"] ["kinds", "place"] (defScope s_amount_at) := ⟨rfl, rfl, rfl, by decide +kernel, rfl, by decide +kernel, by decide +kernel⟩
abbrev s_side_by_side : Stmt := top 59
theorem sc_side_by_side : FnScope ["kinds", "others", "found", "place", "end"] ["kinds", "others"] (defScope s_side_by_side) := ⟨rfl, rfl, rfl, by decide +kernel, rfl, by decide +kernel, by decide +kernel⟩
abbrev s_gives_and_gets : Stmt := top 58
theorem sc_gives_and_gets : FnScope ["kinds", "others", "found", "places", "amount", "count", "apart", "here", "there", "many", "gives", "more"] ["kinds", "others"] (defScope s_gives_and_gets) := ⟨rfl, rfl, rfl, by decide +kernel, rfl, by decide +kernel, by decide +kernel⟩
abbrev s_least_gifts : Stmt := top 57
theorem sc_least_gifts : FnScope ["kinds", "others", "amount", "gives", "gets"] ["kinds", "others"] (defScope s_least_gifts) := ⟨rfl, rfl, rfl, by decide +kernel, rfl, by decide +kernel, by decide +kernel⟩
abbrev s_gifts : Stmt := top 54
theorem sc_gifts : FnScope ["first", "second", "kinds", "others"] ["first", "second"] (defScope s_gifts) := ⟨rfl, rfl, rfl, by decide +kernel, rfl, by decide +kernel, by decide +kernel⟩
abbrev s_rows_of_gifts : Stmt := top 78
theorem sc_rows_of_gifts : FnScope ["wanted", "rows", "lacking", "giver", "gives", "gets", "still", "taker", "lacks", "many"] ["wanted"] (defScope s_rows_of_gifts) := ⟨rfl, rfl, rfl, by decide +kernel, rfl, by decide +kernel, by decide +kernel⟩
abbrev s_certify_gifts : Stmt := top 77
theorem sc_certify_gifts : FnScope ["first", "second", "least", "rows"] ["first", "second"] (defScope s_certify_gifts) := ⟨rfl, rfl, rfl, by decide +kernel, rfl, by decide +kernel, by decide +kernel⟩
abbrev s_crossing : Stmt := top 53
theorem sc_crossing : FnScope ["first", "second", "kinds", "others"] ["first", "second"] (defScope s_crossing) := ⟨rfl, rfl, rfl, by decide +kernel, rfl, by decide +kernel, by decide +kernel⟩
abbrev s_certify_order : Stmt := top 76
theorem sc_certify_order : FnScope ["first", "second", "crossed", "texts"] ["first", "second"] (defScope s_certify_order) := ⟨rfl, rfl, rfl, by decide +kernel, rfl, by decide +kernel, by decide +kernel⟩
abbrev s_is_tuple : Stmt := top 93
theorem sc_is_tuple : FnScope ["value"] ["value"] (defScope s_is_tuple) := ⟨rfl, rfl, rfl, by decide +kernel, rfl, by decide +kernel, by decide +kernel⟩
abbrev s_is_text : Stmt := top 94
theorem sc_is_text : FnScope ["value"] ["value"] (defScope s_is_text) := ⟨rfl, rfl, rfl, by decide +kernel, rfl, by decide +kernel, by decide +kernel⟩
abbrev s_told_rules : Stmt := top 89
theorem sc_told_rules : FnScope ["texts", "text", "rules"] ["texts"] (defScope s_told_rules) := ⟨rfl, rfl, rfl, by decide +kernel, rfl, by decide +kernel, by decide +kernel⟩
abbrev s_told_kinds : Stmt := top 91
theorem sc_told_kinds : FnScope ["text"] ["text"] (defScope s_told_kinds) := ⟨rfl, rfl, rfl, by decide +kernel, rfl, by decide +kernel, by decide +kernel⟩
abbrev s_accepts_more : Stmt := top 81
theorem sc_accepts_more : FnScope ["told", "certificate", "rules", "bands", "others"] ["told", "certificate"] (defScope s_accepts_more) := ⟨rfl, rfl, rfl, by decide +kernel, rfl, by decide +kernel, by decide +kernel⟩
abbrev s_accepts_not_more : Stmt := top 82
theorem sc_accepts_not_more : FnScope ["told", "certificate", "rules", "incomes", "bands", "others"] ["told", "certificate"] (defScope s_accepts_not_more) := ⟨rfl, rfl, rfl, by decide +kernel, rfl, by decide +kernel, by decide +kernel⟩
abbrev s_is_integer_checker : Stmt := top 95
theorem sc_is_integer_checker : FnScope ["value"] ["value"] (defScope s_is_integer_checker) := ⟨rfl, rfl, rfl, by decide +kernel, rfl, by decide +kernel, by decide +kernel⟩
abbrev s_told_purses : Stmt := top 90
theorem sc_told_purses : FnScope ["texts", "purses", "text"] ["texts"] (defScope s_told_purses) := ⟨rfl, rfl, rfl, by decide +kernel, rfl, by decide +kernel, by decide +kernel⟩
abbrev s_are_integers : Stmt := top 92
theorem sc_are_integers : FnScope ["value", "many", "each"] ["value", "many"] (defScope s_are_integers) := ⟨rfl, rfl, rfl, by decide +kernel, rfl, by decide +kernel, by decide +kernel⟩
abbrev s_accepts_even : Stmt := top 83
theorem sc_accepts_even : FnScope ["told", "certificate", "purses", "kinds", "others"] ["told", "certificate"] (defScope s_accepts_even) := ⟨rfl, rfl, rfl, by decide +kernel, rfl, by decide +kernel, by decide +kernel⟩
abbrev s_accepts_uneven : Stmt := top 84
theorem sc_accepts_uneven : FnScope ["told", "certificate", "purses", "part", "whole", "kinds", "others", "top", "bottom", "other_top", "other_bottom"] ["told", "certificate"] (defScope s_accepts_uneven) := ⟨rfl, rfl, rfl, by decide +kernel, rfl, by decide +kernel, by decide +kernel⟩
abbrev s_is_gift : Stmt := top 87
theorem sc_is_gift : FnScope ["row", "amounts", "giver", "taker", "many"] ["row", "amounts"] (defScope s_is_gift) := ⟨rfl, rfl, rfl, by decide +kernel, rfl, by decide +kernel, by decide +kernel⟩
abbrev s_sum_at : Stmt := top 88
theorem sc_sum_at : FnScope ["rows", "place", "amount", "row"] ["rows", "place", "amount"] (defScope s_sum_at) := ⟨rfl, rfl, rfl, by decide +kernel, rfl, by decide +kernel, by decide +kernel⟩
abbrev s_are_gifts : Stmt := top 86
theorem sc_are_gifts : FnScope ["rows", "wanted", "amounts", "amount", "gives", "gets", "row", "pairs", "giver", "taker", "many", "one", "other"] ["rows", "wanted"] (defScope s_are_gifts) := ⟨rfl, rfl, rfl, by decide +kernel, rfl, by decide +kernel, by decide +kernel⟩
abbrev s_accepts_gifts : Stmt := top 85
theorem sc_accepts_gifts : FnScope ["told", "certificate", "purses", "kinds", "others"] ["told", "certificate"] (defScope s_accepts_gifts) := ⟨rfl, rfl, rfl, by decide +kernel, rfl, by decide +kernel, by decide +kernel⟩
abbrev s_accepts : Stmt := top 80
theorem sc_accepts : FnScope ["claim", "certificate", "check"] ["claim", "certificate"] (defScope s_accepts) := ⟨rfl, rfl, rfl, by decide +kernel, rfl, by decide +kernel, by decide +kernel⟩
abbrev s__law_well : Stmt := top 99
theorem sc__law_well : FnScope ["script", "at", "state", "each", "own"] ["script", "at"] (defScope s__law_well) := ⟨rfl, rfl, rfl, by decide +kernel, rfl, by decide +kernel, by decide +kernel⟩
abbrev s__law_draw : Stmt := top 100
theorem sc__law_draw : FnScope ["well", "many", "digit"] ["well", "many"] (defScope s__law_draw) := ⟨rfl, rfl, rfl, by decide +kernel, rfl, by decide +kernel, by decide +kernel⟩
abbrev s__law_far : Stmt := top 101
theorem sc__law_far : FnScope ["well", "top", "way", "found", "turn"] ["well", "top"] (defScope s__law_far) := ⟨rfl, rfl, rfl, by decide +kernel, rfl, by decide +kernel, by decide +kernel⟩
abbrev s__law_spell : Stmt := top 102
theorem sc__law_spell : FnScope ["bands", "rows", "band"] ["bands"] (defScope s__law_spell) := ⟨rfl, rfl, rfl, by decide +kernel, rfl, by decide +kernel, by decide +kernel⟩
abbrev s__law_lines : Stmt := top 103
theorem sc__law_lines : FnScope ["kinds", "amount", "many"] ["kinds"] (defScope s__law_lines) := ⟨rfl, rfl, rfl, by decide +kernel, rfl, by decide +kernel, by decide +kernel⟩
abbrev s__law_same : Stmt := top 105
theorem sc__law_same : FnScope ["told", "due"] ["told", "due"] (defScope s__law_same) := ⟨rfl, rfl, rfl, by decide +kernel, rfl, by decide +kernel, by decide +kernel⟩
abbrev s__law_judged : Stmt := top 104
theorem sc__law_judged : FnScope ["told", "paper", "due", "got"] ["told", "paper", "due"] (defScope s__law_judged) := ⟨rfl, rfl, rfl, by decide +kernel, rfl, by decide +kernel, by decide +kernel⟩
abbrev s__law_rules_right : Stmt := top 106
theorem sc__law_rules_right : FnScope ["well", "edge", "pace", "more", "taxed", "summed", "greater", "falling", "cliff", "mine", "rows", "bands", "mates", "word", "told", "paper"] ["well"] (defScope s__law_rules_right) := ⟨rfl, rfl, rfl, by decide +kernel, rfl, by decide +kernel, by decide +kernel⟩
abbrev s__law_purses_right : Stmt := top 107
theorem sc__law_purses_right : FnScope ["well", "part", "many", "times", "parted", "whole", "told", "paper", "often", "richer", "rows", "near", "far", "word"] ["well"] (defScope s__law_purses_right) := ⟨rfl, rfl, rfl, by decide +kernel, rfl, by decide +kernel, by decide +kernel⟩
abbrev s_law : Stmt := top 108
theorem sc_law : FnScope ["script", "at", "well"] ["script"] (defScope s_law) := ⟨rfl, rfl, rfl, by decide +kernel, rfl, by decide +kernel, by decide +kernel⟩
end Ev
namespace EvE
open PySem PySem.Spec PyProof.Rows L2 He Ev EvH
/-! ### the head's facts -/
def dd0 : DefD := ⟨("is_integer_integers", none), "is_integer", "is_integer", defArgs s_is_integer_integers, defBody s_is_integer_integers, defScope s_is_integer_integers, [], []⟩
def dd1 : DefD := ⟨("is_within", none), "is_within", "is_within", defArgs s_is_within, defBody s_is_within, defScope s_is_within, [], []⟩
def dd2 : DefD := ⟨("is_value", none), "is_value", "is_value", defArgs s_is_value, defBody s_is_value, defScope s_is_value, [], []⟩
def dd3 : DefD := ⟨("is_step", none), "is_step", "is_step", defArgs s_is_step, defBody s_is_step, defScope s_is_step, [], []⟩
def dd4 : DefD := ⟨("last_income", none), "last_income", "last_income", defArgs s_last_income, defBody s_last_income, defScope s_last_income, [], []⟩
def dd5 : DefD := ⟨("is_band", none), "is_band", "is_band", defArgs s_is_band, defBody s_is_band, defScope s_is_band, [], []⟩
def dd6 : DefD := ⟨("first_wrong_rules", none), "first_wrong", "first_wrong", defArgs s_first_wrong_rules, defBody s_first_wrong_rules, defScope s_first_wrong_rules, [], []⟩
def dd7 : DefD := ⟨("first_below", none), "first_below", "first_below", defArgs s_first_below, defBody s_first_below, defScope s_first_below, [], []⟩
def dd8 : DefD := ⟨("left_by", none), "left_by", "left_by", defArgs s_left_by, defBody s_left_by, defScope s_left_by, [], []⟩
def dd9 : DefD := ⟨("lines_of_rules", none), "lines_of", "lines_of", defArgs s_lines_of_rules, defBody s_lines_of_rules, defScope s_lines_of_rules, [], []⟩
def dd10 : DefD := ⟨("read_integer", none), "read_integer", "read_integer", defArgs s_read_integer, defBody s_read_integer, defScope s_read_integer, [], []⟩
def dd11 : DefD := ⟨("band_of", none), "band_of", "band_of", defArgs s_band_of, defBody s_band_of, defScope s_band_of, [], []⟩
def dd12 : DefD := ⟨("bands_with", none), "bands_with", "bands_with", defArgs s_bands_with, defBody s_bands_with, defScope s_bands_with, [], []⟩
def dd13 : DefD := ⟨("Rule", some "__init__"), "__init__", "Rule.__init__", defArgs s_Rule___init__, defBody s_Rule___init__, defScope s_Rule___init__, [], []⟩
def dd14 : DefD := ⟨("Rule", some "__str__"), "__str__", "Rule.__str__", defArgs s_Rule___str__, defBody s_Rule___str__, defScope s_Rule___str__, [], []⟩
def dd15 : DefD := ⟨("is_kind", none), "is_kind", "is_kind", defArgs s_is_kind, defBody s_is_kind, defScope s_is_kind, [], []⟩
def dd16 : DefD := ⟨("first_wrong_purses", none), "first_wrong", "first_wrong", defArgs s_first_wrong_purses, defBody s_first_wrong_purses, defScope s_first_wrong_purses, [], []⟩
def dd17 : DefD := ⟨("kind_of", none), "kind_of", "kind_of", defArgs s_kind_of, defBody s_kind_of, defScope s_kind_of, [], []⟩
def dd18 : DefD := ⟨("lines_of_purses", none), "lines_of", "lines_of", defArgs s_lines_of_purses, defBody s_lines_of_purses, defScope s_lines_of_purses, [], []⟩
def dd19 : DefD := ⟨("kinds_with", none), "kinds_with", "kinds_with", defArgs s_kinds_with, defBody s_kinds_with, defScope s_kinds_with, [], []⟩
def dd20 : DefD := ⟨("Purse", some "__init__"), "__init__", "Purse.__init__", defArgs s_Purse___init__, defBody s_Purse___init__, defScope s_Purse___init__, [], []⟩
def dd21 : DefD := ⟨("Purse", some "__str__"), "__str__", "Purse.__str__", defArgs s_Purse___str__, defBody s_Purse___str__, defScope s_Purse___str__, [], []⟩
def dd22 : DefD := ⟨("plain", none), "plain", "plain", defArgs s_plain, defBody s_plain, defScope s_plain, [], []⟩
def dd23 : DefD := ⟨("bands_of", none), "bands_of", "bands_of", defArgs s_bands_of, defBody s_bands_of, defScope s_bands_of, [], []⟩
def dd24 : DefD := ⟨("first_turn", none), "first_turn", "first_turn", defArgs s_first_turn, defBody s_first_turn, defScope s_first_turn, [], []⟩
def dd25 : DefD := ⟨("left_by_both", none), "left_by_both", "left_by_both", defArgs s_left_by_both, defBody s_left_by_both, defScope s_left_by_both, [], []⟩
def dd26 : DefD := ⟨("breaks", none), "breaks", "breaks", defArgs s_breaks, defBody s_breaks, defScope s_breaks, [], []⟩
def dd27 : DefD := ⟨("neighbours", none), "neighbours", "neighbours", defArgs s_neighbours, defBody s_neighbours, defScope s_neighbours, [], []⟩
def dd28 : DefD := ⟨("other_bands", none), "other_bands", "other_bands", defArgs s_other_bands, defBody s_other_bands, defScope s_other_bands, [], []⟩
def dd29 : DefD := ⟨("ordered_bands", none), "ordered_bands", "ordered_bands", defArgs s_ordered_bands, defBody s_ordered_bands, defScope s_ordered_bands, [], []⟩
def dd30 : DefD := ⟨("compared", none), "compared", "compared", defArgs s_compared, defBody s_compared, defScope s_compared, [], []⟩
def dd31 : DefD := ⟨("first_broken", none), "first_broken", "first_broken", defArgs s_first_broken, defBody s_first_broken, defScope s_first_broken, [], []⟩
def dd32 : DefD := ⟨("many_above", none), "many_above", "many_above", defArgs s_many_above, defBody s_many_above, defScope s_many_above, [], []⟩
def dd33 : DefD := ⟨("contrary", none), "contrary", "contrary", defArgs s_contrary, defBody s_contrary, defScope s_contrary, [.non], []⟩
def dd34 : DefD := ⟨("certify_evening", none), "certify_evening", "certify_evening", defArgs s_certify_evening, defBody s_certify_evening, defScope s_certify_evening, [.non], []⟩
def dd35 : DefD := ⟨("kinds_of", none), "kinds_of", "kinds_of", defArgs s_kinds_of, defBody s_kinds_of, defScope s_kinds_of, [], []⟩
def dd36 : DefD := ⟨("kinds_behind", none), "kinds_behind", "kinds_behind", defArgs s_kinds_behind, defBody s_kinds_behind, defScope s_kinds_behind, [], []⟩
def dd37 : DefD := ⟨("ends_of", none), "ends_of", "ends_of", defArgs s_ends_of, defBody s_ends_of, defScope s_ends_of, [], []⟩
def dd38 : DefD := ⟨("total_of", none), "total_of", "total_of", defArgs s_total_of, defBody s_total_of, defScope s_total_of, [], []⟩
def dd39 : DefD := ⟨("lowest_share", none), "lowest_share", "lowest_share", defArgs s_lowest_share, defBody s_lowest_share, defScope s_lowest_share, [], []⟩
def dd40 : DefD := ⟨("first_crossing", none), "first_crossing", "first_crossing", defArgs s_first_crossing, defBody s_first_crossing, defScope s_first_crossing, [], []⟩
def dd41 : DefD := ⟨("amount_at", none), "amount_at", "amount_at", defArgs s_amount_at, defBody s_amount_at, defScope s_amount_at, [], []⟩
def dd42 : DefD := ⟨("side_by_side", none), "side_by_side", "side_by_side", defArgs s_side_by_side, defBody s_side_by_side, defScope s_side_by_side, [], []⟩
def dd43 : DefD := ⟨("gives_and_gets", none), "gives_and_gets", "gives_and_gets", defArgs s_gives_and_gets, defBody s_gives_and_gets, defScope s_gives_and_gets, [], []⟩
def dd44 : DefD := ⟨("least_gifts", none), "least_gifts", "least_gifts", defArgs s_least_gifts, defBody s_least_gifts, defScope s_least_gifts, [], []⟩
def dd45 : DefD := ⟨("gifts", none), "gifts", "gifts", defArgs s_gifts, defBody s_gifts, defScope s_gifts, [], []⟩
def dd46 : DefD := ⟨("rows_of_gifts", none), "rows_of_gifts", "rows_of_gifts", defArgs s_rows_of_gifts, defBody s_rows_of_gifts, defScope s_rows_of_gifts, [], []⟩
def dd47 : DefD := ⟨("certify_gifts", none), "certify_gifts", "certify_gifts", defArgs s_certify_gifts, defBody s_certify_gifts, defScope s_certify_gifts, [], []⟩
def dd48 : DefD := ⟨("crossing", none), "crossing", "crossing", defArgs s_crossing, defBody s_crossing, defScope s_crossing, [], []⟩
def dd49 : DefD := ⟨("certify_order", none), "certify_order", "certify_order", defArgs s_certify_order, defBody s_certify_order, defScope s_certify_order, [], []⟩
def dd50 : DefD := ⟨("is_tuple", none), "is_tuple", "is_tuple", defArgs s_is_tuple, defBody s_is_tuple, defScope s_is_tuple, [], []⟩
def dd51 : DefD := ⟨("is_text", none), "is_text", "is_text", defArgs s_is_text, defBody s_is_text, defScope s_is_text, [], []⟩
def dd52 : DefD := ⟨("told_rules", none), "told_rules", "told_rules", defArgs s_told_rules, defBody s_told_rules, defScope s_told_rules, [], []⟩
def dd53 : DefD := ⟨("told_kinds", none), "told_kinds", "told_kinds", defArgs s_told_kinds, defBody s_told_kinds, defScope s_told_kinds, [], []⟩
def dd54 : DefD := ⟨("accepts_more", none), "accepts_more", "accepts_more", defArgs s_accepts_more, defBody s_accepts_more, defScope s_accepts_more, [], []⟩
def dd55 : DefD := ⟨("accepts_not_more", none), "accepts_not_more", "accepts_not_more", defArgs s_accepts_not_more, defBody s_accepts_not_more, defScope s_accepts_not_more, [], []⟩
def dd56 : DefD := ⟨("is_integer_checker", none), "is_integer", "is_integer", defArgs s_is_integer_checker, defBody s_is_integer_checker, defScope s_is_integer_checker, [], []⟩
def dd57 : DefD := ⟨("told_purses", none), "told_purses", "told_purses", defArgs s_told_purses, defBody s_told_purses, defScope s_told_purses, [], []⟩
def dd58 : DefD := ⟨("are_integers", none), "are_integers", "are_integers", defArgs s_are_integers, defBody s_are_integers, defScope s_are_integers, [], []⟩
def dd59 : DefD := ⟨("accepts_even", none), "accepts_even", "accepts_even", defArgs s_accepts_even, defBody s_accepts_even, defScope s_accepts_even, [], []⟩
def dd60 : DefD := ⟨("accepts_uneven", none), "accepts_uneven", "accepts_uneven", defArgs s_accepts_uneven, defBody s_accepts_uneven, defScope s_accepts_uneven, [], []⟩
def dd61 : DefD := ⟨("is_gift", none), "is_gift", "is_gift", defArgs s_is_gift, defBody s_is_gift, defScope s_is_gift, [], []⟩
def dd62 : DefD := ⟨("sum_at", none), "sum_at", "sum_at", defArgs s_sum_at, defBody s_sum_at, defScope s_sum_at, [], []⟩
def dd63 : DefD := ⟨("are_gifts", none), "are_gifts", "are_gifts", defArgs s_are_gifts, defBody s_are_gifts, defScope s_are_gifts, [], []⟩
def dd64 : DefD := ⟨("accepts_gifts", none), "accepts_gifts", "accepts_gifts", defArgs s_accepts_gifts, defBody s_accepts_gifts, defScope s_accepts_gifts, [], []⟩
def dd65 : DefD := ⟨("accepts", none), "accepts", "accepts", defArgs s_accepts, defBody s_accepts, defScope s_accepts, [], []⟩
def dd66 : DefD := ⟨("_law_well", none), "_law_well", "_law_well", defArgs s__law_well, defBody s__law_well, defScope s__law_well, [], []⟩
def dd67 : DefD := ⟨("_law_draw", none), "_law_draw", "_law_draw", defArgs s__law_draw, defBody s__law_draw, defScope s__law_draw, [], []⟩
def dd68 : DefD := ⟨("_law_far", none), "_law_far", "_law_far", defArgs s__law_far, defBody s__law_far, defScope s__law_far, [], []⟩
def dd69 : DefD := ⟨("_law_spell", none), "_law_spell", "_law_spell", defArgs s__law_spell, defBody s__law_spell, defScope s__law_spell, [], []⟩
def dd70 : DefD := ⟨("_law_lines", none), "_law_lines", "_law_lines", defArgs s__law_lines, defBody s__law_lines, defScope s__law_lines, [], []⟩
def dd71 : DefD := ⟨("_law_same", none), "_law_same", "_law_same", defArgs s__law_same, defBody s__law_same, defScope s__law_same, [], []⟩
def dd72 : DefD := ⟨("_law_judged", none), "_law_judged", "_law_judged", defArgs s__law_judged, defBody s__law_judged, defScope s__law_judged, [], []⟩
def dd73 : DefD := ⟨("_law_rules_right", none), "_law_rules_right", "_law_rules_right", defArgs s__law_rules_right, defBody s__law_rules_right, defScope s__law_rules_right, [], []⟩
def dd74 : DefD := ⟨("_law_purses_right", none), "_law_purses_right", "_law_purses_right", defArgs s__law_purses_right, defBody s__law_purses_right, defScope s__law_purses_right, [], []⟩
def dd75 : DefD := ⟨("law", none), "law", "law", defArgs s_law, defBody s_law, defScope s_law, [], []⟩
def fn : List DefD := [dd0, dd1, dd2, dd3, dd4, dd5, dd6, dd7, dd8, dd9, dd10, dd11, dd12, dd13, dd14, dd15, dd16, dd17, dd18, dd19, dd20, dd21, dd22, dd23, dd24, dd25, dd26, dd27, dd28, dd29, dd30, dd31, dd32, dd33, dd34, dd35, dd36, dd37, dd38, dd39, dd40, dd41, dd42, dd43, dd44, dd45, dd46, dd47, dd48, dd49, dd50, dd51, dd52, dd53, dd54, dd55, dd56, dd57, dd58, dd59, dd60, dd61, dd62, dd63, dd64, dd65, dd66, dd67, dd68, dd69, dd70, dd71, dd72, dd73, dd74, dd75]
def pp0 : PropD := ⟨"Rule", "bands", "Rule.bands", defArgs s_Rule_bands, defBody s_Rule_bands, defScope s_Rule_bands, false⟩
def pp1 : PropD := ⟨"Purse", "kinds", "Purse.kinds", defArgs s_Purse_kinds, defBody s_Purse_kinds, defScope s_Purse_kinds, false⟩
def pn : List PropD := [pp0, pp1]
def fa : List Fa := [.glo "is_integer_integers", .glo "is_within", .glo "is_value", .glo "is_step", .glo "last_income", .glo "is_band", .glo "first_wrong_rules", .glo "first_below", .glo "left_by", .glo "lines_of_rules", .glo "read_integer", .glo "band_of", .glo "bands_with", .mkr "Rule", .meth "Rule" "__str__", .glo "is_kind", .glo "first_wrong_purses", .glo "kind_of", .glo "lines_of_purses", .glo "kinds_with", .mkr "Purse", .meth "Purse" "__str__", .glo "plain", .glo "bands_of", .glo "first_turn", .glo "left_by_both", .glo "breaks", .glo "neighbours", .glo "other_bands", .glo "ordered_bands", .glo "compared", .glo "first_broken", .glo "many_above", .glo "contrary", .glo "certify_evening", .glo "kinds_of", .glo "kinds_behind", .glo "ends_of", .glo "total_of", .glo "lowest_share", .glo "first_crossing", .glo "amount_at", .glo "side_by_side", .glo "gives_and_gets", .glo "least_gifts", .glo "gifts", .glo "rows_of_gifts", .glo "certify_gifts", .glo "crossing", .glo "certify_order", .glo "is_tuple", .glo "is_text", .glo "told_rules", .glo "told_kinds", .glo "accepts_more", .glo "accepts_not_more", .glo "is_integer_checker", .glo "told_purses", .glo "are_integers", .glo "accepts_even", .glo "accepts_uneven", .glo "is_gift", .glo "sum_at", .glo "are_gifts", .glo "accepts_gifts", .glo "accepts", .glo "_law_well", .glo "_law_draw", .glo "_law_far", .glo "_law_spell", .glo "_law_lines", .glo "_law_same", .glo "_law_judged", .glo "_law_rules_right", .glo "_law_purses_right", .glo "law", .glo "Rule", .cls "Rule", .noat "Rule" "_bands", .glo "Purse", .cls "Purse", .noat "Purse" "_kinds", .free "len", .free "int", .free "str", .free "bool", .free "tuple", .free "abs", .free "divmod", .free "isinstance", .free "all", .free "min", .free "range", .free "sorted", .free "sum", .free "set", .free "zip", .free "type", .free "enumerate", .free "repr", .free "max", .free "list", .free "dict", .int "MOST_BANDS" (8), .int "MOST_STEP" (1000), .int "MOST_START" (10 ^ 29), .int "MOST_INCOME" (10 ^ 30), .int "MOST_VALUE" (10 ^ 32), .int "MOST_KINDS" (30), .int "MOST_AMOUNT" (10 ^ 36), .int "MOST_COUNT" (10 ^ 36 * 10 ^ 36), .int "MOST_DIGITS" (80), .glo "CHECKS"]
def ex : PySem.W.Frag → Bool := fun K => insB "Rule" K && (readB "Rule" K && (neB "Rule" K && (insB "Purse" K && (readB "Purse" K && (neB "Purse" K && (dctB "CHECKS" chkT K))))))
def asL : List Addr := [3, 716, 180, 187, 194, 257, 268, 275, 437, 282, 289, 296, 303, 310, 317, 324, 329, 449, 334, 339, 346, 414, 423, 430, 444, 454, 461, 468, 475, 482, 489, 494, 499, 506, 511, 518, 523, 530, 537, 542, 549, 556, 564, 571, 578, 585, 593, 600, 607, 614, 621, 628, 635, 642, 649, 656, 661, 668, 673, 678, 683, 690, 695, 702, 709, 717, 724, 731, 738, 743, 748, 755, 762, 769, 776, 783, 715, 179, 186, 193, 256, 267, 274, 436, 281, 288, 295, 302, 309, 316, 323, 328, 448, 333, 338, 345, 413, 422, 429, 443, 453, 460, 467, 474, 481, 488, 493, 498, 505, 510, 517, 522, 529, 536, 541, 548, 555, 563, 557, 570, 577, 584, 592, 586, 599, 606, 613, 620, 627, 634, 641, 648, 655, 660, 667, 672, 677, 682, 689, 694, 701, 708, 723, 730, 737, 742, 747, 754, 761, 768, 775, 782, 208, 226, 247, 360, 378, 404, 207, 225, 246, 359, 377, 403, 224, 376, 2]
abbrev hk : PySem.W.Hook := hookPDL asL fa fn pn ex chkTs
end EvE


set_option Elab.async false
set_option linter.all false
set_option maxRecDepth 100000
set_option maxHeartbeats 4000000
namespace Ev
open PySem PySem.Spec PyProof.Rows L2
/-! ### set(xs), xs a list of ints -/
section
variable {P : Program} {w : World} {A : Around} {E : Value → Shared → Prop} {s : Shared}
/-- the empty set that set() begins with -/
abbrev bare (w : World) : Obj := { cls := .type "set", dict := none, data := .set #[] 0 (.fresh 0 0 (!w.params.followText "set-order")) }
theorem fill_set {l : Addr} {dd : Option Addr} {sl} {items : Array Value} {nl : Nat} {ns : List Int} (hh : A.handled = none) (ho : s.heap.get? l = some { cls := .type "list", dict := dd, data := .seq items nl, slots := sl }) (hit : IntsAre items.toList ns) (hb : ns.length + 1 < scanBound) :
    codeAny (model P w) A (.call (.builtin "set.__init__") ⟨[.ref s.heap.objs.size, .ref l], []⟩) (wants (fun r s₂ => r = .none ∧ ∃ h' tk c, s₂ = { s with heap := h', toks := tk } ∧ SetR w h' s.heap.objs.size (fun j => decide (j ∈ ns)) c ∧ c ≤ ns.length ∧
      (∀ b o, s.heap.get? b = some o → h'.get? b = some o)) E) { s with heap := s.heap.push (bare w) } := by
  have hS : (s.heap.push (bare w)).get? s.heap.objs.size = some (bare w) := Heap.get?_push_size _ rfl
  have hT : Shared.TypeIs { s with heap := s.heap.push (bare w) } (.ref s.heap.objs.size) "set" := ⟨_, hS, rfl⟩
  have hsz : items.size = ns.length := by
    have q := hit.length
    rwa [Array.length_toList] at q
  refine codeAny_call_builtin F.called_set.init.plain F.entry_set_init (check_set_init_1 hT ?_)
  have ho' : (s.heap.push (bare w)).get? l = some { cls := .type "list", dict := dd, data := .seq items nl, slots := sl } := Heap.get?_push_of_some _ ho
  have h1 := F.sub_list_set
  have h2 := F.sub_list_frozenset
  have h3 : (Value.type "list" == Value.type "dict") = false := by decide
  have hl : (s.heap.push (bare w)).IsList l items := ⟨_, ho', rfl, nl, rfl⟩
  unfold Builtin.«set.__init__» noKeywords Builtin.Frozenset.updateFrom
  generalize hPI : pyIter = PI
  wp_walk
  subst hPI
  refine wpAny_pyIter_list hl (wpAny_bind (wpAny_runValue ?_))
  have lt := Heap.lt_size ho
  have sz : (s.heap.push (bare w)).objs.size = s.heap.objs.size + 1 := Heap.size_push ..
  have ne1 : l ≠ (s.heap.push (bare w)).objs.size := by rw [sz]; exact Nat.ne_of_lt (Nat.lt_succ_of_lt lt)
  have ne2 : s.heap.objs.size ∉ [(s.heap.push (bare w)).objs.size, l] := by
    rw [sz]
    simp only [List.mem_cons, List.not_mem_nil, or_false, not_or]
    exact ⟨Nat.ne_of_lt (Nat.lt_succ_self _), Nat.ne_of_gt lt⟩
  have hh3 : A.in1.in1.handled = none := by simp [hh]
  refine set_update_ints ((Walks.list hh3 _ l ne1 items).toS) s.heap.objs.size ne2 ns hsz hb (fun i v hv => ?_) (items.size - 0) 0 _ (by omega) (Nat.zero_le _)
    ?st ?new ?_
  case st => exact ⟨⟨_, Heap.get?_push_size _ rfl, rfl, rfl⟩, hl.push _⟩
  case new =>
    have e : ((s.heap.push (bare w)).push { cls := .type "list_iterator", data := .fields #[.ref l, .int 0 0] }).get? s.heap.objs.size = some (bare w) := Heap.get?_push_of_some _ hS
    exact ⟨0, Nat.le_refl 0, setR_new_at e⟩
  · have hi : i < ns.length := by rw [← hsz]; exact (Array.getElem?_eq_some_iff.mp hv).1
    obtain ⟨t, e⟩ := hit.int_at i v (by rw [Array.getElem?_toList]; exact hv)
    refine ⟨ns[i], t, List.getElem?_eq_getElem hi, ?_⟩
    rw [e, List.getD_eq_getElem?_getD, List.getElem?_eq_getElem hi] <;> rfl
  · rintro ⟨h', g', d', tk', os'⟩ c' hm hc' hS'
    obtain rfl : g' = s.gens := hm.gens
    obtain rfl : d' = s.drawn := hm.drawn
    obtain rfl : os' = s.os := hm.os
    rw [hsz] at hc'
    show wpAny _ _ _ _ _ _
    refine wpAny_pure ?_
    show wpAny _ _ (ret Value.none) _ _ _
    refine wpAny_pure ⟨rfl, h', tk', c', rfl, hS', hc', fun b o e => ?_⟩
    have lb := Heap.lt_size e
    refine hm.heap b o ?_ (Heap.get?_push_of_some _ (Heap.get?_push_of_some _ e))
    rw [sz]
    simp only [List.mem_cons, List.not_mem_nil, or_false, not_or]
    exact ⟨Nat.ne_of_lt lb, Nat.ne_of_lt (Nat.lt_succ_of_lt lb)⟩
theorem set_of_list {l : Addr} {dd : Option Addr} {sl} {items : Array Value} {nl : Nat} {ns : List Int} {Q : Value → Shared → Prop} (hh : A.handled = none) (ho : s.heap.get? l = some { cls := .type "list", dict := dd, data := .seq items nl, slots := sl }) (hit : IntsAre items.toList ns) (hb : ns.length + 1 < scanBound)
    (h : ∀ (h' : Heap) (tk c : Nat), SetR w h' s.heap.objs.size (fun j => decide (j ∈ ns)) c → c ≤ ns.length → (∀ b o, s.heap.get? b = some o → h'.get? b = some o) → Q (.ref s.heap.objs.size) { s with heap := h', toks := tk }) :
    wpAny (model P w) A (call (.type "set") [.ref l]) Q E s := by
  obtain ⟨c, tl, hmro⟩ := F.called_set.mro
  have hmade := F.called_set.made
  have hsub := F.called_set.sub
  have k1 := F.called_set.notType
  have k2 := F.called_set.canCreate
  have k3 := F.typeCall_set_1 (.ref l)
  refine wpAny_call (codeAny_of_tree ?_)
  show wpAny _ _ (callAny (.type "set") _) _ _ _
  refine wpAny_pure ⟨Code.quiet_builtin _ (by decide +kernel), codeAny_builtin F.entry_type_call ?_⟩
  rw [Around.under_plain (weight_type_call_type "set" [.ref l] []) rfl]
  repeat (any_goals (first | assumption | wp_step))
  refine codeAny_mono (code_set_led1 (.ref l) (E := E) (Q₁ := fun obj s₁ => obj = .ref s.heap.objs.size ∧ s₁ = { s with heap := s.heap.push (bare w) }) ⟨rfl, rfl⟩) fun r s₁ hr => ?_
  rcases r with e | (_ | _ | _ | obj)
  · exact hr
  · exact hr.elim
  · exact hr.elim
  · exact hr.elim
  · obtain ⟨rfl, rfl⟩ := hr
    have hT : Shared.TypeIs { s with heap := s.heap.push (bare w) } (.ref s.heap.objs.size) "set" := ⟨_, Heap.get?_push_size _ rfl, rfl⟩
    have k4 := F.called_set.init.lookup
    have k5 := F.called_set.init.bind (.ref s.heap.objs.size)
    repeat (any_goals (first | assumption | wp_step))
    refine codeAny_mono (fill_set (E := E) (by simp [hh]) ho hit hb) fun r₂ s₂ hr₂ => ?_
    rcases r₂ with e | (_ | _ | _ | u)
    · exact hr₂
    · exact hr₂.elim
    · exact hr₂.elim
    · exact hr₂.elim
    · obtain ⟨rfl, h', tk, c', rfl, q1, q2, q3⟩ := hr₂
      repeat (any_goals (first | assumption | wp_step))
      exact h _ _ _ q1 q2 q3
end
section
variable {X : Cx}
theorem call_setL (hc : X.calm = true) : CallR X (.type "set") (fun xs H Q => ∃ (l : Addr) (ns : List Int), xs = [.ref l] ∧ SqL X.K H l (ns.map V.int) ∧ ns.length ≤ 1000 ∧ ∀ p c, H p = none → c ≤ ns.length → Q (.ref p) (upd H p (SetO X.w p (fun j => decide (j ∈ ns)) c))) := by
  intro pins s σ H xs us Q I r h
  obtain ⟨l, ns, rfl, hS, hl, q⟩ := h
  rw [Vals.ref1 r]
  obtain ⟨its, rv, ⟨⟨cls, dd, data, sl⟩, n, ho, hcl, hdn, hd⟩, _⟩ := I.list hS
  simp only at hcl hd
  subst hcl hd
  refine set_of_list (I.ok.hd hc) ho (ints_of_vals rv) (by unfold scanBound; omega) fun h' tk c R hcn k => ?_
  have hf := I.hok.fresh (Nat.le_refl s.heap.objs.size)
  exact ⟨.ref _, _, I.laid k (Nat.le_refl _) (setO_new R), rfl, q _ c hf hcn⟩
end
end Ev

set_option Elab.async false
set_option linter.all false
set_option maxRecDepth 100000
set_option maxHeartbeats 4000000
namespace Ev
open PySem PySem.Spec PyProof.Rows L2
/-! ### where a rule keeps the order -/
theorem left1_next (b : Band) (x : Int) : left1 b (x + 1) = left1 b x + b.2.2 := by
  unfold left1
  have e : x + 1 - b.1 = (x - b.1) + 1 := by omega
  rw [e, Int.mul_add, Int.mul_one, Int.add_assoc]
theorem turn_none {bs : List Band} (h : firstTurn bs = none) (j : Nat) (hj : j < bs.length) : turnAt bs j = none := by
  unfold firstTurn at h
  rw [List.findSome?_eq_none_iff] at h
  exact h j (List.mem_range.mpr hj)
/-- from one income to the next, where no band turns -/
theorem Good.step_up {bs : List Band} (g : Good bs) (h : firstTurn bs = none) {x : Int} (x0 : 0 ≤ x) : leftOf bs x ≤ leftOf bs (x + 1) := by
  obtain ⟨j, b, hb, h0, h1⟩ := g.find x0
  have hj := (List.getElem?_eq_some_iff.mp hb).1
  have t := turn_none h j hj
  rw [leftOf_at g hb h0 h1]
  unfold turnAt at t
  rw [hb] at t
  cases hc : bs[j + 1]? with
  | none =>
    rw [hc] at t
    have s0 : ¬ b.2.2 < 0 := fun z => by simp [z] at t
    rw [leftOf_at g hb (by omega) (fun c e => by rw [hc] at e; cases e), left1_next]
    omega
  | some c =>
    rw [hc] at t
    have lt := h1 c hc
    have n1 : ¬ (b.2.2 < 0 ∧ c.1 - 1 ≠ b.1) := fun z => by simp [z] at t
    have n2 : ¬ left1 b (c.1 - 1) > c.2.1 := fun z => by simp [n1, z] at t
    by_cases k : x + 1 < c.1
    · rw [leftOf_at g hb (by omega) (fun c' e => by rw [hc] at e; cases e; exact k), left1_next]
      have : ¬ b.2.2 < 0 := fun z => n1 ⟨z, by omega⟩
      omega
    · have e : x + 1 = c.1 := by omega
      have e2 : x = c.1 - 1 := by omega
      rw [leftOf_at g hc (by omega) (fun d hd => by have := g.rises (j + 1) c d hc hd; omega), e, e2]
      have : left1 c c.1 = c.2.1 := by
        unfold left1
        rw [Int.sub_self, Int.mul_zero, Int.add_zero]
      rw [this]
      omega
theorem Good.up {bs : List Band} (g : Good bs) (h : firstTurn bs = none) : ∀ (n : Nat) {x : Int}, 0 ≤ x → leftOf bs x ≤ leftOf bs (x + n)
  | 0, x, x0 => by simp
  | n + 1, x, x0 => by
    have h1 := Good.up g h n x0
    have h2 := g.step_up h (x := x + n) (by omega)
    have e : x + ((n + 1 : Nat) : Int) = x + n + 1 := by omega
    rw [e]
    omega
theorem Good.le_up {bs : List Band} (g : Good bs) (h : firstTurn bs = none) {x y : Int} (x0 : 0 ≤ x) (xy : x ≤ y) : leftOf bs x ≤ leftOf bs y := by
  have := g.up h (y - x).toNat x0
  have e : x + ((y - x).toNat : Int) = y := by omega
  rwa [e] at this
/-- the incomes at which a turn shows -/
def Shows (bs : List Band) (spots : List Int) : Prop := ∀ (j : Nat) b c, bs[j]? = some b → bs[j + 1]? = some c → b.1 ∈ spots ∧ (b.1 + 1 ≤ c.1 - 1 → b.1 + 1 ∈ spots) ∧ c.1 - 1 ∈ spots ∧ c.1 ∈ spots
/-! ### promises -/
/-- the one band of a list -/
def spLeftL (K : PySem.W.Frag) : Sp := fun vs H Q _ => ∃ (t r : Addr) (b : Band) (x : Int), vs = [.ref t, .int x] ∧ SqL K H t [.ref r] ∧ SqT K H r (bandT b) ∧ b.1 ≤ x ∧ -1000 ≤ b.2.2 ∧ b.2.2 ≤ 1000 ∧ ∀ H', Same H H' → Q (.int (left1 b x)) H'
def spNever (K : PySem.W.Frag) : Sp := fun vs H Q _ => ∃ (t p : Addr) (bs : List Band) (ns : List Int), vs = [.ref t, .ref p] ∧ BandsAt H t bs ∧ Good bs ∧ SqL K H p (ns.map V.int) ∧ ns.length ≤ 1000 ∧ (∀ n ∈ ns, 0 ≤ n) ∧ ∀ H', Same H H' → Q (.bl (decide ((ns.map (leftOf bs)).Pairwise (· ≤ ·)))) H'
def spEnds : Sp := fun vs H Q _ => ∃ (t : Addr) (bs : List Band), vs = [.ref t] ∧ BandsAt H t bs ∧ Good bs ∧ ∀ (p : Addr) (ns : List Int) (H' : Hp), H p = none → Same H H' → H' p = some (.lst (ns.map V.int)) → ns.Pairwise (· < ·) → (∀ n ∈ ns, 0 ≤ n) → Shows bs ns → ns.length ≤ 64 → Q (.ref p) H'
def spRisen : Sp := fun vs H Q _ => ∃ (t : Addr) (bs : List Band), vs = [.ref t] ∧ BandsAt H t bs ∧ Good bs ∧ (∀ b ∈ bs, b.1 ≤ 49 ∧ b.2.1 ≤ 10 ^ 6) ∧ ∀ (t' : Addr) (bs' : List Band) (H' : Hp), H t' = none → Same H H' → BandsAt H' t' bs' → Good bs' → firstTurn bs' = none → Q (.ref t') H'
/-! ### risen bands -/
structure Risen (bs : List Band) (i : Nat) (before : Int) (bs' : List Band) : Prop where
  len : bs'.length = i
  at_ : ∀ (j : Nat) b, bs'[j]? = some b → ∃ c, bs[j]? = some c ∧ b.1 = c.1
  v : ∀ (j : Nat) b, bs'[j]? = some b → 0 ≤ b.2.1 ∧ b.2.1 ≤ 10 ^ 6 + 60000 * (j : Int)
  s : ∀ (j : Nat) b, bs'[j]? = some b → 0 ≤ b.2.2 ∧ b.2.2 ≤ 1000
  up : ∀ (j : Nat) b c, bs'[j]? = some b → bs'[j + 1]? = some c → left1 b (c.1 - 1) ≤ c.2.1
  next : ∀ (j : Nat) b c, j + 1 = i → bs'[j]? = some b → bs[i]? = some c → left1 b (c.1 - 1) ≤ before
  b0 : 0 ≤ before
  b1 : before ≤ 10 ^ 6 + 60000 * (i : Int)
theorem snoc_get {α : Type} {l : List α} {x y : α} {j : Nat} (h : (l ++ [x])[j]? = some y) : (j < l.length ∧ l[j]? = some y) ∨ (j = l.length ∧ y = x) := by
  by_cases c : j < l.length
  · rw [List.getElem?_append_left c] at h
    exact .inl ⟨c, h⟩
  · have hl := (List.getElem?_eq_some_iff.mp h).1
    rw [List.length_append, List.length_singleton] at hl
    have e : j = l.length := by omega
    rw [e, List.getElem?_append_right (Nat.le_refl _), Nat.sub_self] at h
    exact .inr ⟨e, (Option.some.inj h).symm⟩
theorem Risen.snoc {bs bs' : List Band} {i : Nat} {before v s before' : Int} {c : Band} (R : Risen bs i before bs') (hc : bs[i]? = some c) (v0 : before ≤ v) (v1 : v ≤ 10 ^ 6 + 60000 * (i : Int)) (s0 : 0 ≤ s) (s1 : s ≤ 1000)
    (hn : ∀ d, bs[i + 1]? = some d → before' = left1 (c.1, v, s) (d.1 - 1)) (n0 : 0 ≤ before') (n1 : before' ≤ 10 ^ 6 + 60000 * ((i : Int) + 1)) : Risen bs (i + 1) before' (bs' ++ [(c.1, v, s)]) where
  len := by rw [List.length_append, R.len]; rfl
  at_ := fun j b h => by
    rcases snoc_get h with ⟨_, h⟩ | ⟨e, rfl⟩
    · exact R.at_ j b h
    · rw [R.len] at e
      subst e
      exact ⟨c, hc, rfl⟩
  v := fun j b h => by
    rcases snoc_get h with ⟨_, h⟩ | ⟨e, rfl⟩
    · exact R.v j b h
    · rw [R.len] at e
      subst e
      exact ⟨Int.le_trans R.b0 v0, v1⟩
  s := fun j b h => by
    rcases snoc_get h with ⟨_, h⟩ | ⟨e, rfl⟩
    · exact R.s j b h
    · exact ⟨s0, s1⟩
  up := fun j b d h h' => by
    rcases snoc_get h with ⟨l, h⟩ | ⟨e, rfl⟩
    · rcases snoc_get h' with ⟨_, h'⟩ | ⟨e', rfl⟩
      · exact R.up j b d h h'
      · rw [R.len] at e'
        exact Int.le_trans (R.next j b c e' h hc) v0
    · rcases snoc_get h' with ⟨l', _⟩ | ⟨e', _⟩
      · omega
      · omega
  next := fun j b d e h h' => by
    rcases snoc_get h with ⟨l, _⟩ | ⟨_, rfl⟩
    · rw [R.len] at l
      omega
    · rw [hn d h']
      exact Int.le_refl _
  b0 := n0
  b1 := by
    have : ((i + 1 : Nat) : Int) = (i : Int) + 1 := by omega
    rw [this]
    exact n1
theorem Risen.good {bs bs' : List Band} {before : Int} (R : Risen bs bs.length before bs') (g : Good bs) : Good bs' where
  len1 := by rw [R.len]; exact g.len1
  len8 := by rw [R.len]; exact g.len8
  first := fun b h => by
    obtain ⟨c, hc, e⟩ := R.at_ 0 b h
    rw [e]
    exact g.first c hc
  rises := fun i b c h h' => by
    obtain ⟨b', hb, e⟩ := R.at_ i b h
    obtain ⟨c', hc, e'⟩ := R.at_ (i + 1) c h'
    rw [e, e']
    exact g.rises i _ _ hb hc
  start := fun b h => by
    obtain ⟨j, hj⟩ := List.mem_iff_getElem?.mp h
    obtain ⟨c, hc, e⟩ := R.at_ j b hj
    rw [e]
    exact g.start c (List.mem_of_getElem? hc)
  value := fun b h => by
    obtain ⟨j, hj⟩ := List.mem_iff_getElem?.mp h
    have hl := (List.getElem?_eq_some_iff.mp hj).1
    have := R.v j b hj
    have := g.len8
    have := R.len
    omega
  step := fun b h => by
    obtain ⟨j, hj⟩ := List.mem_iff_getElem?.mp h
    have := R.s j b hj
    omega
  ends := fun i b c h _ n => by
    have := R.s i b h
    omega
  last := fun i b h _ => (R.s i b h).1
theorem Risen.keeps {bs bs' : List Band} {before : Int} (R : Risen bs bs.length before bs') : firstTurn bs' = none := find_none fun j hj => by
  have hb : bs'[j]? = some bs'[j] := List.getElem?_eq_getElem hj
  have s := R.s j _ hb
  have n : ¬ bs'[j].2.2 < 0 := by omega
  unfold turnAt
  rw [hb]
  cases hc : bs'[j + 1]? with
  | none => simp [n]
  | some c =>
    have u := R.up j _ c hb hc
    have m : ¬ left1 bs'[j] (c.1 - 1) > c.2.1 := by omega
    simp [n, m]
theorem FnOk.or {P : Program} {w : World} {K : PySem.W.Frag} {mg : Str → Option Value} {base : Heap} {k : Nat} {f : Addr} {fd : FuncData} {ps : List Str} {sp sp' : Sp} (F : FnOk P w K mg base CX0 k f fd ps sp) (G : FnOk P w K mg base CX0 k f fd ps sp') :
    FnOk P w K mg base CX0 k f fd ps (fun vs H Q E => sp vs H Q E ∨ sp' vs H Q E) :=
  ⟨fun vs H Q E h => h.elim (F.len vs H Q E) (G.len vs H Q E), fun A outer s H args us vs Q E hr he hb hv hs => hs.elim (F.run A outer s H args us vs Q E hr he hb hv) (G.run A outer s H args us vs Q E hr he hb hv)⟩
end Ev

set_option Elab.async false
set_option linter.all false
set_option maxRecDepth 100000
set_option maxHeartbeats 4000000
namespace Ev
open PySem PySem.Spec PyProof.Rows L2
/-! ### str(x), x == y, x != y, len(x) of instances of an own class -/
section
open PySem.W Builtin
variable {prog : Program} {w : World} {A : Around} {E : Value → Shared → Prop} {s : Shared} {K : PySem.W.Frag} {x y C f : Addr} {ox oy : Obj} {od od2 : Option Obj}
end
section
variable {X : Cx} {pins : List (Addr × Obj)} {σ : L2.St} {H : Hp} {s : Shared} {C : Addr} {k : Nat} {sp : Sp}
theorem run_at {A' : Around} {f : Addr} {Q : VK} {us : List Value} {vs : List V} {E : Value → Shared → Prop} (FR : FnR X.prog X.w X.K X.mg X.base CX0 k f sp) (hr : Room k A') (e0 : Env0 X.prog X.w X.K X.mg X.base A' X.stack s H) (I : Inv X pins σ H s) (r : Vals vs us) (h : sp vs H Q E0) :
    wpAny (model X.prog X.w) A' (call (.ref f) us) (EP X pins σ Q) E s := by
  refine wpAny_call (codeAny_mono (FR A' X.stack s H us vs Q E0 hr e0 r h) fun r s' hq => ?_)
  cases r with
  | error e => exact hq.elim
  | ok fl =>
    cases fl with
    | ret u => exact I.after hq
    | next => exact False.elim hq
    | brk => exact False.elim hq
    | cont => exact False.elim hq
theorem inst_at (I : Inv X pins σ H s) {a dx : Addr} {fs : List (Str × V)} (ha : H a = some (.ins C dx fs)) : ∃ od, PySem.W.InstAt s.heap a (PySem.W.instObj C dx) C (some od) := by
  obtain ⟨mA, O, _⟩ := ins_get I.hok ha
  obtain ⟨od, J, _⟩ := O.look
  exact ⟨od, J⟩
/-- str(x) by the class's own __str__ -/
theorem call_strOwn (D : MDef X.prog X.w X.K X.mg X.base C "__str__" ["self"] k sp) (hr : Room (k + 2) X.A) :
    CallR X (.type "str") (fun xs H Q => ∃ a dx fs, xs = [.ref a] ∧ H a = some (.ins C dx fs) ∧ sp [.ref a] H (fun v H' => ∃ y, v = .str y ∧ Q v H') E0) := by
  intro pins s σ H xs us Q I r h
  obtain ⟨a, dx, fs, rfl, ha, q⟩ := h
  rw [Vals.ref1 r]
  obtain ⟨f, fd, m, b, G⟩ := D
  obtain ⟨od, J⟩ := inst_at I ha
  refine PySem.W.kso_call hr.in1.in1.units0 I.kIn J m.at_ m.fn ?_
  refine wpAny_mono (run_at (vs := [V.ref a]) (G.raw b .nil) hr.in1.in1 I.env0.in1.in1 I (.cons rfl .nil) q) (fun u s' z => ?_) fun _ _ z => z
  obtain ⟨v, H', I', rv, y, rfl, qq⟩ := z
  obtain ⟨t, rfl⟩ := rv
  exact ⟨.str y, H', I', ⟨t, rfl⟩, qq⟩
end
end Ev

set_option Elab.async false
set_option linter.all false
set_option maxRecDepth 100000
set_option maxHeartbeats 4000000
namespace Ev
open PySem PySem.Spec PyProof.Rows L2 TL PySem.Builtin PySem.Builtin.Str PySem.StrLaws
/-! ### ints as texts -/
def nI (i : Int) : Str := Str.ofString (toString i)
theorem tl_nI (i : Int) : tl (nI i) = if i < 0 then 45 :: numL i.natAbs else numL i.natAbs := by
  unfold nI
  cases i with
  | ofNat n =>
    rw [if_neg (show ¬ (Int.ofNat n < 0) from Int.not_lt.mpr (Int.natCast_nonneg n))]
    exact tl_num n
  | negSucc n =>
    rw [if_pos (Int.negSucc_lt_zero n)]
    have e : toString (Int.negSucc n) = "-" ++ Nat.repr (n + 1) := rfl
    rw [e, Str.ofString_eq_toList]
    show (("-" ++ Nat.repr (n + 1)).toList.map Char.toNat).toArray.toList = _
    rw [String.toList_append, List.map_append]
    show _ = 45 :: (Nat.toDigits 10 (n + 1)).map Char.toNat
    have e2 : (Nat.repr (n + 1)).toList = Nat.toDigits 10 (n + 1) := by simp [Nat.repr]
    rw [e2]
    rfl
theorem nI_nat (n : Nat) : tl (nI n) = numL n := tl_num n
theorem nI_chars (i : Int) : ∀ c ∈ tl (nI i), c = 45 ∨ (48 ≤ c ∧ c ≤ 57) := by
  intro c hc
  rw [tl_nI] at hc
  have d := numL_digits i.natAbs
  split at hc
  · rcases List.mem_cons.mp hc with e | hc
    · exact .inl e
    · exact .inr (d c hc)
  · exact .inr (d c hc)
theorem nI_len {i : Int} {k : Nat} (hk : 0 < k) (h : i.natAbs < 10 ^ k) : (nI i).length ≤ k + 1 := by
  rw [len_tl, tl_nI]
  have := numL_len hk h
  split
  · rw [List.length_cons]
    omega
  · omega
theorem nI_int {i : Int} (h : i.natAbs < 10 ^ 40) : intText? (nI i) = some i := by
  have hl := nI_len (k := 40) (by decide) h
  by_cases c : i < 0
  · have e : (nI i).cps.toList = 45 :: numL i.natAbs := by
      have := tl_nI i
      rw [if_pos c] at this
      exact this
    rw [PySem.intText_neg e (numL_digits _) (numL_ne _) (by omega), numL_val]
    congr 1
    omega
  · have e : (nI i).cps.toList = numL i.natAbs := by
      have := tl_nI i
      rw [if_neg c] at this
      exact this
    rw [PySem.intText_digits (by rw [e]; exact numL_digits _) (by rw [e]; exact numL_ne _) (by omega), e, numL_val]
    congr 1
    omega
theorem nI_pre (i : Int) : Txt.removeprefix (nI i) (Str.ofString "-") = nI i.natAbs := by
  have y : (Str.ofString "-") = ⟨#[45]⟩ := by decide +kernel
  refine ext_tl ?_
  rw [nI_nat, y]
  by_cases c : i < 0
  · have e : tl (nI i) = 45 :: numL i.natAbs := by
      have := tl_nI i
      rw [if_pos c] at this
      exact this
    have s : Builtin.Str.subAt (nI i) ⟨#[45]⟩ 0 = true := by
      rw [subAt_eq]
      show ((tl (nI i)).drop 0).take 1 == [45]
      rw [e]
      rfl
    have hl : (nI i).length = (numL i.natAbs).length + 1 := by rw [len_tl, e, List.length_cons]
    rw [removeprefix_eq, s, decide_eq_true (by rw [hl]; show 0 + 1 ≤ _; omega)]
    show ((tl (nI i)).drop 1).take ((nI i).length - 1) = _
    rw [e, hl]
    show (numL i.natAbs).take ((numL i.natAbs).length + 1 - 1) = _
    rw [Nat.add_sub_cancel, List.take_length]
  · have e : tl (nI i) = numL i.natAbs := by
      have := tl_nI i
      rw [if_neg c] at this
      exact this
    have s : Builtin.Str.subAt (nI i) ⟨#[45]⟩ 0 = false := by
      rw [subAt_eq]
      show (((tl (nI i)).drop 0).take 1 == [45]) = false
      rw [e]
      have f := numL_free (n := i.natAbs) (s := 45) (by omega)
      cases hx : numL i.natAbs with
      | nil => rfl
      | cons c r =>
        rw [hx] at f
        have : c ≠ 45 := fun z => f (by rw [z]; exact List.mem_cons_self)
        simp [this]
    rw [removeprefix_eq, s, Bool.and_false]
    exact e
theorem nI_ascii (i : Int) : Txt.isascii (nI i) = true := by
  unfold Txt.isascii
  rw [← Array.all_toList, List.all_eq_true]
  intro c hc
  have := nI_chars i c hc
  exact decide_eq_true (by omega)
theorem dig_of : ∀ c : Nat, c < 58 → 48 ≤ c → Unicode.isDigit c = true := by decide +kernel
theorem nI_digit (n : Nat) : Txt.isdigit (nI n) = true := by
  unfold Txt.isdigit
  rw [Bool.and_eq_true]
  refine ⟨decide_eq_true ?_, ?_⟩
  · rw [len_tl, nI_nat]
    have := numL_ne n
    cases h : numL n with
    | nil => exact absurd h this
    | cons c r => simp
  · rw [← Array.all_toList, List.all_eq_true]
    intro c hc
    have h := numL_digits n c (by rw [← nI_nat n]; exact hc)
    exact dig_of c (by omega) h.1
/-! ### a band's line, a rule's page -/
def lineOf (b : Band) : Str := Txt.join (Str.ofString " ") [Str.ofString "from", nI b.1, Str.ofString "value", nI b.2.1, Str.ofString "step", nI b.2.2]
def pageOf (bs : List Band) : Str := Txt.join (Str.ofString "\n") (bs.map lineOf)
theorem sp_tl : tl (Str.ofString " ") = [32] := by decide +kernel
theorem nl_tl : tl (Str.ofString "\n") = [10] := by decide +kernel
theorem nI_no {i : Int} {c : Nat} (h : c ≠ 45) (h2 : c < 48 ∨ 57 < c) : c ∉ tl (nI i) := fun z => by
  have := nI_chars i c z
  omega
theorem line_split (b : Band) : Txt.split (lineOf b) (Str.ofString " ") = [Str.ofString "from", nI b.1, Str.ofString "value", nI b.2.1, Str.ofString "step", nI b.2.2] := by
  refine split_join sp_tl (by decide +kernel) (by simp) fun p hp => ?_
  simp only [List.mem_cons, List.not_mem_nil, or_false] at hp
  rcases hp with e | e | e | e | e | e <;> rw [e]
  · decide +kernel
  · exact nI_no (by decide) (by decide)
  · decide +kernel
  · exact nI_no (by decide) (by decide)
  · decide +kernel
  · exact nI_no (by decide) (by decide)
theorem joinL_mem {s : List Nat} {c : Nat} : ∀ {l : List (List Nat)}, c ∈ joinL s l → c ∈ s ∨ ∃ p ∈ l, c ∈ p
  | [], h => by cases h
  | [p], h => .inr ⟨p, List.mem_cons_self, h⟩
  | p :: q :: r, h => by
    have h' : c ∈ p ++ (s ++ joinL s (q :: r)) := h
    rcases List.mem_append.mp h' with z | z
    · exact .inr ⟨p, List.mem_cons_self, z⟩
    · rcases List.mem_append.mp z with z | z
      · exact .inl z
      · rcases joinL_mem z with y | ⟨x, hx, hc⟩
        · exact .inl y
        · exact .inr ⟨x, List.mem_cons_of_mem _ hx, hc⟩
theorem line_free (b : Band) : 10 ∉ tl (lineOf b) := fun z => by
  have e : tl (lineOf b) = joinL [32] ([Str.ofString "from", nI b.1, Str.ofString "value", nI b.2.1, Str.ofString "step", nI b.2.2].map tl) := by
    unfold lineOf
    rw [join_eq, tl_join, sp_tl]
  rw [e] at z
  rcases joinL_mem z with y | ⟨x, hx, hc⟩
  · simp at y
  · obtain ⟨p, hp, rfl⟩ := List.mem_map.mp hx
    simp only [List.mem_cons, List.not_mem_nil, or_false] at hp
    rcases hp with e | e | e | e | e | e <;> rw [e] at hc <;> revert hc
    · decide +kernel
    · exact nI_no (by decide) (by decide)
    · decide +kernel
    · exact nI_no (by decide) (by decide)
    · decide +kernel
    · exact nI_no (by decide) (by decide)
theorem page_split {bs : List Band} (h : bs ≠ []) : Txt.split (pageOf bs) (Str.ofString "\n") = bs.map lineOf := by
  refine split_join nl_tl (by decide +kernel) (by simpa using h) fun p hp => ?_
  obtain ⟨b, _, rfl⟩ := List.mem_map.mp hp
  exact line_free b
end Ev

set_option Elab.async false
set_option linter.all false
set_option maxRecDepth 100000
set_option maxHeartbeats 4000000
namespace Ev
open PySem PySem.Spec PyProof.Rows L2
/-! ### classmethods, a class held by a local name -/
/-- C.m is a classmethod that keeps the promise sp (of the class and the arguments) -/
def CDef (P : Program) (w : World) (K : PySem.W.Frag) (mg : Str → Option Value) (base : Heap) (C : Addr) (m : Str) (ps : List Str) (k : Nat) (sp : Sp) : Prop :=
  ∃ p g fd, ClX.CMet K C (.type "type") m p g ∧ Binds K fd ps [] ∧ FnOk P w K mg base CX0 k g fd ps sp
def CKDef (P : Program) (w : World) (K : PySem.W.Frag) (mg : Str → Option Value) (base : Heap) (C : Addr) (m : Str) (ps ks : List Str) (k : Nat) (sp : Sp) : Prop :=
  ∃ p g fd, ClX.CMet K C (.type "type") m p g ∧ KB fd ps 1 ks ∧ FnOk P w K mg base CX0 k g fd ps sp
/-- the class's m by keywords alone -/
def tCMethK (C : Addr) (n : Nat) (sp : Sp) (ta : TE) (tk : TA) : TE := fun σ H Q => ta σ H fun x H1 => x = .ref C ∧ tk σ H1 fun zs H2 => zs.length = n ∧ sp (.ref C :: zs) H2 Q E0
section
variable {X : Cx} {x m : Str} {C : Addr} {ps ks : List Str} {k : Nat} {sp spM : Sp} {p pos apos : Pos} {o e : Expr} {es : List Expr} {kws : List Keyword} {ta : TE} {t tk : TA}
/-- cls(e, ..), cls a local name that holds the class -/
def tMakeL (i : Nat) (C : Addr) (spM : Sp) (t : TA) : TE := fun σ H Q => σ[i]? = some (some (.ref C)) ∧ tDef spM t σ H Q
end
end Ev

set_option Elab.async false
set_option linter.all false
set_option maxRecDepth 100000
set_option maxHeartbeats 4000000
namespace Ev
open PySem PySem.Spec PyProof.Rows L2 TL
/-! ### lengths of texts, the two ways of a line -/
theorem joinL_len (s : List Nat) : ∀ l : List (List Nat), (joinL s l).length ≤ (l.map List.length).sum + l.length * s.length
  | [] => by simp [joinL]
  | [p] => by
    show p.length ≤ _
    simp
  | p :: q :: r => by
    have ih := joinL_len s (q :: r)
    have e : (joinL s (p :: q :: r)).length = p.length + (s.length + (joinL s (q :: r)).length) := by
      show (p ++ (s ++ joinL s (q :: r))).length = _
      rw [List.length_append, List.length_append]
    rw [e, List.map_cons, List.sum_cons, List.length_cons, Nat.add_mul]
    omega
theorem join_len (y : Str) (parts : List Str) : (Txt.join y parts).length ≤ (parts.map (·.length)).sum + parts.length * y.length := by
  rw [len_tl, join_eq, tl_join]
  have h := joinL_len (tl y) (parts.map tl)
  rw [List.map_map, List.length_map] at h
  have e : (List.length ∘ tl) = fun x : Str => x.length := by
    funext x
    exact (len_tl x).symm
  rw [e] at h
  rw [len_tl y]
  exact h
/-- a band whose numbers are short -/
def Short (b : Band) : Prop := b.1.natAbs < 10 ^ 40 ∧ b.2.1.natAbs < 10 ^ 40 ∧ b.2.2.natAbs < 10 ^ 40
theorem Good.short {bs : List Band} (g : Good bs) {b : Band} (h : b ∈ bs) : Short b := by
  have h1 := g.nonneg' h
  have h2 := g.start b h
  have h3 := g.value b h
  have h4 := g.step b h
  refine ⟨?_, ?_, ?_⟩ <;> omega
theorem line_len {b : Band} (h : Short b) : (lineOf b).length ≤ 200 := by
  have h1 := nI_len (k := 40) (by decide) h.1
  have h2 := nI_len (k := 40) (by decide) h.2.1
  have h3 := nI_len (k := 40) (by decide) h.2.2
  have k := join_len (Str.ofString " ") [Str.ofString "from", nI b.1, Str.ofString "value", nI b.2.1, Str.ofString "step", nI b.2.2]
  have l1 : (Str.ofString "from").length = 4 := by decide +kernel
  have l2 : (Str.ofString "value").length = 5 := by decide +kernel
  have l3 : (Str.ofString "step").length = 4 := by decide +kernel
  have l4 : (Str.ofString " ").length = 1 := by decide +kernel
  simp only [List.map_cons, List.map_nil, List.sum_cons, List.sum_nil, List.length_cons, List.length_nil, l1, l2, l3, l4] at k
  unfold lineOf
  omega
theorem sum_le {l : List Str} {n : Nat} (h : ∀ x ∈ l, x.length ≤ n) : (l.map (·.length)).sum ≤ l.length * n := by
  induction l with
  | nil => simp
  | cons x r ih =>
    have h1 := h x List.mem_cons_self
    have h2 := ih fun y hy => h y (List.mem_cons_of_mem _ hy)
    rw [List.map_cons, List.sum_cons, List.length_cons, Nat.add_mul]
    omega
theorem Good.lines_len {bs : List Band} (g : Good bs) : ((bs.map lineOf).map (·.length)).sum + (bs.map lineOf).length * (Str.ofString "\n").length ≤ 2000 := by
  have h := sum_le (l := bs.map lineOf) (n := 200) fun x hx => by
    obtain ⟨b, hb, rfl⟩ := List.mem_map.mp hx
    exact line_len (g.short hb)
  have l1 : (Str.ofString "\n").length = 1 := by decide +kernel
  have := g.len8
  rw [List.length_map] at h
  rw [l1, List.length_map]
  omega
theorem Good.page_len {bs : List Band} (g : Good bs) : (pageOf bs).length ≤ 2000 := Nat.le_trans (join_len _ _) g.lines_len
theorem line_add (b : Band) : ((((Str.ofString "from " ++ nI b.1) ++ Str.ofString " value ") ++ nI b.2.1) ++ Str.ofString " step ") ++ nI b.2.2 = lineOf b := by
  have e1 : tl (Str.ofString "from ") = tl (Str.ofString "from") ++ [32] := by decide +kernel
  have e2 : tl (Str.ofString " value ") = [32] ++ (tl (Str.ofString "value") ++ [32]) := by decide +kernel
  have e3 : tl (Str.ofString " step ") = [32] ++ (tl (Str.ofString "step") ++ [32]) := by decide +kernel
  refine ext_tl ?_
  unfold lineOf
  rw [join_eq, tl_join, sp_tl]
  simp only [tl_append, e1, e2, e3, List.map_cons, List.map_nil]
  simp only [joinL, List.append_assoc]
theorem empty_add (x : Str) : Str.empty ++ x = x := ext_tl (by rw [tl_append]; rfl)
theorem line_fmt (b : Band) : (((((Str.empty ++ Str.ofString "from ") ++ nI b.1) ++ Str.ofString " value ") ++ nI b.2.1) ++ Str.ofString " step ") ++ nI b.2.2 = lineOf b := by
  rw [empty_add]
  exact line_add b
/-! ### bands as data -/
def bandD (b : Band) : PyData := .tuple [.int b.1, .int b.2.1, .int b.2.2]
def bandsD (bs : List Band) : PyData := .tuple (bs.map bandD)
theorem dp_band {K : PySem.W.Frag} {H : Hp} {r : Addr} {b : Band} (h : SqT K H r (bandT b)) : Dp K H (.ref r) (bandD b) := .tup h (.cons (.int _) (.cons (.int _) (.cons (.int _) .nil)))
theorem dp_all {K : PySem.W.Frag} {H : Hp} : ∀ (rs : List Addr) (bs : List Band), rs.length = bs.length → (∀ (i : Nat) r b, rs[i]? = some r → bs[i]? = some b → H r = some (.tup (bandT b))) → DpAll K H (rs.map V.ref) (bs.map bandD)
  | [], [], _, _ => .nil
  | [], _ :: _, h, _ => by simp at h
  | _ :: _, [], h, _ => by simp at h
  | r :: rs, b :: bs, h, g => .cons (dp_band (SqT.of (g 0 r b rfl rfl))) (dp_all rs bs (by simpa using h) fun i x y hx hy => g (i + 1) x y hx hy)
theorem BandsAt.dp {K : PySem.W.Frag} {H : Hp} {t : Addr} {bs : List Band} (h : BandsAt H t bs) : Dp K H (.ref t) (bandsD bs) := by
  obtain ⟨rs, h1, h2, h3⟩ := h
  exact .tup (SqT.of h1) (dp_all rs bs h2 h3)
theorem lay_bands : ∀ bs : List Band, PyData.canLayAll0 (bs.map bandD) = true
  | [] => rfl
  | b :: r => by
    rw [List.map_cons, PyData.canLayAll0, lay_bands r]
    rfl
theorem depth_bands : ∀ bs : List Band, PyData.depthAll (bs.map bandD) ≤ 3
  | [] => by simp [PyData.depthAll]
  | b :: r => by
    have := depth_bands r
    simp only [List.map_cons, PyData.depthAll, bandD, PyData.depth]
    omega
theorem shaped_bands (bs : List Band) : SeqAt.shaped (bandsD bs) = true := by
  unfold SeqAt.shaped bandsD
  rw [Bool.and_eq_true]
  refine ⟨lay_bands bs, decide_eq_true ?_⟩
  have := depth_bands bs
  simp only [PyData.depth]
  omega
theorem eqv_band (b c : Band) : PyData.eqv (bandD b) (bandD c) = decide (b = c) := by
  obtain ⟨b1, b2, b3⟩ := b
  obtain ⟨c1, c2, c3⟩ := c
  simp only [bandD, PyData.eqv, PyData.eqvAll, Bool.and_true]
  by_cases h1 : b1 = c1 <;> by_cases h2 : b2 = c2 <;> by_cases h3 : b3 = c3 <;> simp [h1, h2, h3]
theorem eqv_all : ∀ bs cs : List Band, PyData.eqvAll (bs.map bandD) (cs.map bandD) = decide (bs = cs)
  | [], [] => rfl
  | [], _ :: _ => rfl
  | _ :: _, [] => rfl
  | b :: bs, c :: cs => by
    rw [List.map_cons, List.map_cons, PyData.eqvAll, eqv_all bs cs, eqv_band]
    by_cases h : b = c
    · by_cases h' : bs = cs <;> simp [h, h']
    · simp [h]
theorem eqv_bands (bs cs : List Band) : PyData.eqv (bandsD bs) (bandsD cs) = decide (bs = cs) := by
  unfold bandsD
  rw [PyData.eqv, eqv_all]
/-! ### f-strings -/
def tFS (ts : List TE) : TE := fun σ H Q => tJs ts Str.empty σ H fun out H1 => Q (.str out) H1
theorem pe_fs {X : Cx} {v1 v2 : Expr} {rest : List Expr} {ts : List TE} {pos : Pos} (h : PJ X (v1 :: v2 :: rest) ts) : PE X (.JoinedStr (v1 :: v2 :: rest) pos) (tFS ts) := pe_joined h
theorem len_app (a b : Str) : (a ++ b).length = a.length + b.length := by rw [len_tl, tl_append, List.length_append, ← len_tl, ← len_tl]
theorem log_short {n : Nat} (h : n < 10 ^ 40) : n.log2 < 1920 := by
  by_cases z : n = 0
  · subst z
    decide
  · rw [Nat.log2_lt z]
    exact Nat.lt_trans h (by decide)
theorem lit_from : (Str.ofString "from ").length = 5 := by decide +kernel
theorem lit_value : (Str.ofString " value ").length = 7 := by decide +kernel
theorem lit_step : (Str.ofString " step ").length = 6 := by decide +kernel
/-! ### promises -/
def spStr (C : Addr) : Sp := fun vs H Q _ => ∃ (r : Addr) (bs : List Band), vs = [.ref r] ∧ RuleAt C H r bs ∧ ∀ H', Same H H' → Q (.str (pageOf bs)) H'
def spLen (C : Addr) : Sp := fun vs H Q _ => ∃ (r : Addr) (bs : List Band), vs = [.ref r] ∧ RuleAt C H r bs ∧ Q (.int (bs.length : Nat)) H
def spEq (C : Addr) : Sp := fun vs H Q _ => ∃ (r s : Addr) (bs cs : List Band), vs = [.ref r, .ref s] ∧ RuleAt C H r bs ∧ RuleAt C H s cs ∧ Q (.bl (decide (bs = cs))) H
def spReadInt : Sp := fun vs H Q _ => ∃ i : Int, vs = [.str (nI i)] ∧ i.natAbs < 10 ^ 40 ∧ Q (.int i) H
def spBandOf : Sp := fun vs H Q _ => ∃ b : Band, vs = [.str (lineOf b)] ∧ Short b ∧ ∀ r H', H r = none → Same H H' → H' r = some (.tup (bandT b)) → Q (.ref r) H'
def spRead (C : Addr) : Sp := fun vs H Q _ => ∃ bs : List Band, vs = [.ref C, .str (pageOf bs)] ∧ Good bs ∧ ∀ r H', H r = none → Same H H' → RuleAt C H' r bs → Q (.ref r) H'
def spPage : Sp := fun vs H Q _ => ∃ (t : Addr) (bs : List Band), vs = [.ref t] ∧ BandsAt H t bs ∧ Good bs ∧ ∀ H', Same H H' → Q (.str (pageOf bs)) H'
end Ev

set_option Elab.async false
set_option linter.all false
set_option maxRecDepth 100000
set_option maxHeartbeats 4000000
namespace Ev
open PySem PySem.Spec PyProof.Rows L2 TL
/-! ### what repr shows: lengths -/
theorem tuple_le (ts : List Str) (h : ts ≠ []) : (tupleText ts).length ≤ 3 + piled ts := by
  unfold tupleText
  have l1 : (Str.ofString "(").length = 1 := by decide +kernel
  have l2 : (Str.ofString ",)").length = 2 := by decide +kernel
  have l3 : (Str.ofString ")").length = 1 := by decide +kernel
  have := join_length_add ts h
  rw [len_app, len_app, l1]
  split
  · rw [l2]
    omega
  · rw [l3]
    omega
theorem piled_all {n : Nat} : ∀ ts : List Str, (∀ t ∈ ts, t.length ≤ n) → piled ts ≤ ts.length * (n + 2)
  | [], _ => by simp [piled]
  | t :: r, h => by
    have h1 := h t List.mem_cons_self
    have h2 := piled_all r fun x hx => h x (List.mem_cons_of_mem _ hx)
    rw [piled_cons, List.length_cons, Nat.add_mul]
    omega
theorem lit_lt {s : Str} (h : (tl s).all (fun c => decide (c < 128)) = true) : ∀ c ∈ tl s, c < 128 := fun c hc => of_decide_eq_true (List.all_eq_true.mp h c hc)
theorem line_lt (b : Band) : ∀ c ∈ tl (lineOf b), c < 128 := fun c hc => by
  have e : tl (lineOf b) = joinL [32] ([Str.ofString "from", nI b.1, Str.ofString "value", nI b.2.1, Str.ofString "step", nI b.2.2].map tl) := by
    unfold lineOf
    rw [join_eq, tl_join, sp_tl]
  rw [e] at hc
  have n : ∀ i : Int, ∀ c ∈ tl (nI i), c < 128 := fun i c h => by
    have := nI_chars i c h
    omega
  rcases joinL_mem hc with y | ⟨x, hx, hc⟩
  · rw [List.mem_singleton.mp y]
    decide
  · obtain ⟨p, hp, rfl⟩ := List.mem_map.mp hx
    simp only [List.mem_cons, List.not_mem_nil, or_false] at hp
    rcases hp with e | e | e | e | e | e <;> rw [e] at hc
    · exact lit_lt (by decide +kernel) c hc
    · exact n _ c hc
    · exact lit_lt (by decide +kernel) c hc
    · exact n _ c hc
    · exact lit_lt (by decide +kernel) c hc
    · exact n _ c hc
theorem page_lt (bs : List Band) : ∀ c ∈ tl (pageOf bs), c < 128 := fun c hc => by
  have e : tl (pageOf bs) = joinL [10] ((bs.map lineOf).map tl) := by
    unfold pageOf
    rw [join_eq, tl_join, nl_tl]
  rw [e] at hc
  rcases joinL_mem hc with y | ⟨x, hx, hc⟩
  · rw [List.mem_singleton.mp y]
    decide
  · obtain ⟨p, hp, rfl⟩ := List.mem_map.mp hx
    obtain ⟨b, _, rfl⟩ := List.mem_map.mp hp
    exact line_lt b c hc
/-- a rule's bands, its page, a truth: as one list -/
def sheetD (bs : List Band) (z : Bool) : PyData := .list [bandsD bs, .str (pageOf bs), .bool z]
end Ev

set_option Elab.async false
set_option linter.all false
set_option maxRecDepth 100000
set_option maxHeartbeats 4000000
namespace Ev
open PySem PySem.Spec PyProof.Rows L2 TL
/-! ### pages tell their bands -/
theorem Good.ne {bs : List Band} (g : Good bs) : bs ≠ [] := fun z => by
  have := g.len1
  rw [z] at this
  simp at this
/-! ### bands near to a rule's -/
theorem set_get {bs : List Band} {j i : Nat} {b' c : Band} (h : (bs.set j b')[i]? = some c) : (i = j ∧ c = b' ∧ j < bs.length) ∨ (i ≠ j ∧ bs[i]? = some c) := by
  by_cases e : j = i
  · subst e
    rw [List.getElem?_set_self' ] at h
    cases hb : bs[j]? with
    | none => rw [hb] at h; cases h
    | some x =>
      rw [hb] at h
      exact .inl ⟨rfl, (Option.some.inj h).symm, (List.getElem?_eq_some_iff.mp hb).1⟩
  · rw [List.getElem?_set_ne e] at h
    exact .inr ⟨fun z => e z.symm, h⟩
theorem left_up {b b' : Band} {x : Int} (e : b'.1 = b.1) (v : b.2.1 ≤ b'.2.1) (s : b.2.2 ≤ b'.2.2) (hx : b.1 ≤ x) : left1 b x ≤ left1 b' x := by
  unfold left1
  rw [e]
  have : b.2.2 * (x - b.1) ≤ b'.2.2 * (x - b.1) := Int.mul_le_mul_of_nonneg_right s (by omega)
  omega
theorem Good.set {bs : List Band} (g : Good bs) {j : Nat} {b b' : Band} (hb : bs[j]? = some b) (e : b'.1 = b.1) (v : b.2.1 ≤ b'.2.1) (v1 : b'.2.1 ≤ 10 ^ 32) (s : b.2.2 ≤ b'.2.2) (s1 : b'.2.2 ≤ 1000) : Good (bs.set j b') where
  len1 := by rw [List.length_set]; exact g.len1
  len8 := by rw [List.length_set]; exact g.len8
  first := fun c h => by
    rcases set_get h with ⟨z, rfl, _⟩ | ⟨_, h⟩
    · rw [e]
      exact g.first b (by rw [z]; exact hb)
    · exact g.first c h
  rises := fun i c d hc hd => by
    rcases set_get hc with ⟨rfl, rfl, _⟩ | ⟨_, hc⟩
    · rcases set_get hd with ⟨z, _, _⟩ | ⟨_, hd⟩
      · omega
      · rw [e]
        exact g.rises i b d hb hd
    · rcases set_get hd with ⟨z, ed, _⟩ | ⟨_, hd⟩
      · rw [ed, e]
        exact g.rises i c b hc (by rw [z]; exact hb)
      · exact g.rises i c d hc hd
  start := fun c hc => by
    obtain ⟨i, hi⟩ := List.mem_iff_getElem?.mp hc
    rcases set_get hi with ⟨_, rfl, _⟩ | ⟨_, h⟩
    · rw [e]
      exact g.start b (List.mem_of_getElem? hb)
    · exact g.start c (List.mem_of_getElem? h)
  value := fun c hc => by
    obtain ⟨i, hi⟩ := List.mem_iff_getElem?.mp hc
    rcases set_get hi with ⟨_, rfl, _⟩ | ⟨_, h⟩
    · have := g.value b (List.mem_of_getElem? hb)
      omega
    · exact g.value c (List.mem_of_getElem? h)
  step := fun c hc => by
    obtain ⟨i, hi⟩ := List.mem_iff_getElem?.mp hc
    rcases set_get hi with ⟨_, rfl, _⟩ | ⟨_, h⟩
    · have := g.step b (List.mem_of_getElem? hb)
      omega
    · exact g.step c (List.mem_of_getElem? h)
  ends := fun i c d hc hd n => by
    have key : ∀ d' : Band, bs[i + 1]? = some d' → d'.1 = d.1 → 0 ≤ left1 c (d.1 - 1) := fun d' hd' ed => by
      rcases set_get hc with ⟨rfl, rfl, _⟩ | ⟨_, hc⟩
      · have h1 := g.ends i b d' hb hd' (by omega)
        have h2 := g.rises i b d' hb hd'
        have h3 := left_up e v s (x := d'.1 - 1) (by omega)
        rw [← ed]
        omega
      · rw [← ed]
        exact g.ends i c d' hc hd' n
    rcases set_get hd with ⟨z, rfl, _⟩ | ⟨_, hd⟩
    · exact key b (by rw [z]; exact hb) e.symm
    · exact key d hd rfl
  last := fun i c hc hn => by
    have hn' : bs[i + 1]? = none := by
      have := List.getElem?_eq_none_iff.mp hn
      rw [List.length_set] at this
      exact List.getElem?_eq_none this
    rcases set_get hc with ⟨rfl, rfl, _⟩ | ⟨_, hc⟩
    · have := g.last i b hb hn'
      omega
    · exact g.last i c hc hn'
theorem Good.snoc {bs : List Band} (g : Good bs) {l n : Band} (hl : bs.getLast? = some l) (lt : l.1 < n.1) (n1 : n.1 ≤ 10 ^ 29) (v0 : 0 ≤ n.2.1) (v1 : n.2.1 ≤ 10 ^ 32) (s0 : 0 ≤ n.2.2) (s1 : n.2.2 ≤ 1000) (l7 : bs.length < 8) : Good (bs ++ [n]) := by
  have hl' : bs[bs.length - 1]? = some l := by rw [← List.getLast?_eq_getElem?]; exact hl
  have l1 := g.len1
  exact {
    len1 := by rw [List.length_append]; omega
    len8 := by rw [List.length_append, List.length_singleton]; omega
    first := fun c h => by
      rcases snoc_get h with ⟨_, h⟩ | ⟨z, _⟩
      · exact g.first c h
      · omega
    rises := fun i c d hc hd => by
      rcases snoc_get hc with ⟨_, kc⟩ | ⟨z, rfl⟩
      · rcases snoc_get hd with ⟨_, hd⟩ | ⟨z, ed⟩
        · exact g.rises i c d kc hd
        · have : i = bs.length - 1 := by omega
          rw [this, hl'] at kc
          cases kc
          rw [ed]
          exact lt
      · rcases snoc_get hd with ⟨z', _⟩ | ⟨z', _⟩ <;> omega
    start := fun c hc => by
      rcases List.mem_append.mp hc with h | h
      · exact g.start c h
      · rw [List.mem_singleton.mp h]
        exact n1
    value := fun c hc => by
      rcases List.mem_append.mp hc with h | h
      · exact g.value c h
      · rw [List.mem_singleton.mp h]
        exact ⟨v0, v1⟩
    step := fun c hc => by
      rcases List.mem_append.mp hc with h | h
      · exact g.step c h
      · rw [List.mem_singleton.mp h]
        exact ⟨by omega, s1⟩
    ends := fun i c d hc hd ng => by
      rcases snoc_get hc with ⟨_, kc⟩ | ⟨z, rfl⟩
      · rcases snoc_get hd with ⟨_, hd⟩ | ⟨z, ed⟩
        · exact g.ends i c d kc hd ng
        · have : i = bs.length - 1 := by omega
          rw [this, hl'] at kc
          cases kc
          have := g.last (bs.length - 1) l hl' (List.getElem?_eq_none (by omega))
          omega
      · omega
    last := fun i c hc hn => by
      have hi := List.getElem?_eq_none_iff.mp hn
      rw [List.length_append, List.length_singleton] at hi
      rcases snoc_get hc with ⟨z, _⟩ | ⟨_, rfl⟩
      · omega
      · exact s0 }
theorem Good.take {bs : List Band} (g : Good bs) {b : Band} {k : Nat} (hk : bs[k]? = some b) (s0 : 0 ≤ b.2.2) : Good (bs.take (k + 1)) := by
  have hl := (List.getElem?_eq_some_iff.mp hk).1
  have get : ∀ (i : Nat) c, (bs.take (k + 1))[i]? = some c → i ≤ k ∧ bs[i]? = some c := fun i c h => by
    have hi := (List.getElem?_eq_some_iff.mp h).1
    rw [List.length_take] at hi
    rw [List.getElem?_take_of_lt (by omega)] at h
    exact ⟨by omega, h⟩
  exact {
    len1 := by rw [List.length_take]; omega
    len8 := by rw [List.length_take]; have := g.len8; omega
    first := fun c h => g.first c (get 0 c h).2
    rises := fun i c d hc hd => g.rises i c d (get i c hc).2 (get (i + 1) d hd).2
    start := fun c hc => g.start c (List.mem_of_mem_take hc)
    value := fun c hc => g.value c (List.mem_of_mem_take hc)
    step := fun c hc => g.step c (List.mem_of_mem_take hc)
    ends := fun i c d hc hd => g.ends i c d (get i c hc).2 (get (i + 1) d hd).2
    last := fun i c hc hn => by
      have h1 := get i c hc
      have h2 := List.getElem?_eq_none_iff.mp hn
      rw [List.length_take] at h2
      have : i = k := by omega
      subst this
      rw [hk] at h1
      cases h1.2
      exact s0 }
end Ev

set_option Elab.async false
set_option linter.all false
set_option maxRecDepth 100000
set_option maxHeartbeats 4000000
namespace Ev
open PySem PySem.Spec PyProof.Rows L2 TL
/-! ### a row of rules with their bands -/
structure En where
  l : Addr
  r : Addr
  t : Addr
  bs : List Band
structure EnAt (C : Addr) (H : Hp) (e : En) : Prop where
  l : H e.l = some (.lst [.ref e.r, .ref e.t])
  r : RuleAt C H e.r e.bs
  t : BandsAt H e.t e.bs
  g : Good e.bs
theorem EnAt.same {C : Addr} {H H' : Hp} {e : En} (h : EnAt C H e) (s : Same H H') : EnAt C H' e := ⟨s _ _ h.l, h.r.same s, h.t.same s, h.g⟩
theorem EnAt.fx {C a : Addr} {H H' : Hp} {e : En} {n : Nat} (h : EnAt C H e) (v : Vt n H a) (hl : e.l ≠ a) (f : Fx a H H') : EnAt C H' e := ⟨f _ _ hl h.l, h.r.fx v f, h.t.fx v f, h.g⟩
/-- an object written that is none of these -/
theorem BandsAt.put {H : Hp} {t p : Addr} {bs : List Band} {o : HO} {xs : List V} (h : BandsAt H t bs) (hp : H p = some (.lst xs)) : BandsAt (upd H p o) t bs := by
  obtain ⟨rs, h1, h2, h3⟩ := h
  refine ⟨rs, ?_, h2, fun i r b hr hb => ?_⟩
  · rw [upd_ne (ne_of h1 hp (by intro z; cases z))]
    exact h1
  · have h4 := h3 i r b hr hb
    rw [upd_ne (ne_of h4 hp (by intro z; cases z))]
    exact h4
theorem RuleAt.put {C : Addr} {H : Hp} {r p : Addr} {bs : List Band} {o : HO} {xs : List V} (h : RuleAt C H r bs) (hp : H p = some (.lst xs)) : RuleAt C (upd H p o) r bs := by
  obtain ⟨dx, t, h1, h2, g⟩ := h
  refine ⟨dx, t, ?_, h2.put hp, g⟩
  rw [upd_ne (ne_of h1 hp (by intro z; cases z))]
  exact h1
theorem EnAt.put {C p : Addr} {H : Hp} {e : En} {o : HO} {xs : List V} (h : EnAt C H e) (hp : H p = some (.lst xs)) (hl : e.l ≠ p) : EnAt C (upd H p o) e := ⟨by rw [upd_ne hl]; exact h.l, h.r.put hp, h.t.put hp, h.g⟩
structure RowAt (C : Addr) (H : Hp) (p a : Addr) (es : List En) : Prop where
  at_ : H p = some (.lst (es.map fun e => V.ref e.l))
  one : 1 ≤ es.length
  all : ∀ e ∈ es, EnAt C H e ∧ e.l ≠ p ∧ e.l ≠ a
  pa : p ≠ a
theorem RowAt.same {C p a : Addr} {H H' : Hp} {es : List En} (h : RowAt C H p a es) (s : Same H H') : RowAt C H' p a es := ⟨s _ _ h.at_, h.one, fun e he => ⟨(h.all e he).1.same s, (h.all e he).2⟩, h.pa⟩
theorem RowAt.fx {C p a : Addr} {H H' : Hp} {es : List En} {n : Nat} (h : RowAt C H p a es) (v : Vt n H a) (f : Fx a H H') : RowAt C H' p a es := ⟨f _ _ h.pa h.at_, h.one, fun e he => ⟨(h.all e he).1.fx v (h.all e he).2.2 f, (h.all e he).2⟩, h.pa⟩
theorem RowAt.push {C p a : Addr} {H : Hp} {es : List En} {e : En} (h : RowAt C H p a es) (he : EnAt C H e) (hp : e.l ≠ p) (ha : e.l ≠ a) : RowAt C (upd H p (.lst ((es.map fun e => V.ref e.l) ++ [.ref e.l]))) p a (es ++ [e]) where
  at_ := by rw [upd_same, List.map_append]; rfl
  one := by rw [List.length_append]; have := h.one; omega
  all := fun x hx => by
    rcases List.mem_append.mp hx with z | z
    · obtain ⟨k1, k2, k3⟩ := h.all x z
      exact ⟨k1.put h.at_ k2, k2, k3⟩
    · rw [List.mem_singleton.mp z]
      exact ⟨he.put h.at_ hp, hp, ha⟩
  pa := h.pa
/-- near bands -/
def spNear : Sp := fun vs H Q _ => ∃ (a t : Addr) (bs : List Band) (n : Nat), vs = [.ref a, .ref t] ∧ Vt n H a ∧ n ≤ 700000000 ∧ BandsAt H t bs ∧ Good bs ∧
  ∀ (t' : Addr) (bs' : List Band) (H' : Hp), Fx a H H' → BandsAt H' t' bs' → Good bs' → Vt (n + 10) H' a → Q (.ref t') H'
end Ev

set_option Elab.async false
set_option linter.all false
set_option maxRecDepth 100000
set_option maxHeartbeats 4000000
namespace Ev
open PySem PySem.Spec PyProof.Rows L2 TL
/-! ### slices and sums of tracked tuples -/
theorem catA_any {K : PySem.W.Frag} {H : Hp} {a b : Addr} {xs ys : List V} {Q : VK} (ha : H a = some (.tup xs)) (hb : H b = some (.tup ys)) (hl : xs.length + ys.length ≤ sizeLine) (q : ∀ p H', Same H H' → H' p = some (.tup (xs ++ ys)) → Q (.ref p) H') : rCatA K (.ref a) (.ref b) H Q := by
  refine ⟨a, b, xs, ys, rfl, rfl, SqT.of ha, SqT.of hb, hl, ?_⟩
  by_cases z : xs = []
  · subst z
    first
      | exact ⟨fun _ => q b H (Same.refl H) (by simpa using hb), fun n => absurd rfl n⟩
      | exact ⟨fun _ => q b H (Same.refl H) (by simpa using hb), fun n => absurd rfl n, fun n => absurd rfl n⟩
      | (simp only [ne_eq, not_true_eq_false, false_implies, and_true, true_implies]; exact q b H (Same.refl H) (by simpa using hb))
  · by_cases y : ys = []
    · subst y
      first
        | exact ⟨fun n => absurd n z, fun _ => q a H (Same.refl H) (by simpa using ha), fun _ n => absurd rfl n⟩
        | exact ⟨fun n => absurd n z, fun _ _ => q a H (Same.refl H) (by simpa using ha), fun _ n => absurd rfl n⟩
    · first
        | exact ⟨fun n => absurd n z, fun n => absurd n y, fun _ _ p hp => q p _ (same_new hp) upd_same⟩
        | exact ⟨fun n => absurd n z, fun _ n => absurd n y, fun _ _ p hp => q p _ (same_new hp) upd_same⟩
end Ev

set_option Elab.async false
set_option linter.all false
set_option maxRecDepth 100000
set_option maxHeartbeats 4000000
namespace Ev
open PySem PySem.Spec PyProof.Rows L2 TL PySem.Builtin PySem.Builtin.Str PySem.StrLaws
/-! ### tuples of tuples, of any kind -/
/-- at t stands a tuple of such tuples -/
def RowsAt {α : Type} (f : α → List V) (H : Hp) (t : Addr) (xs : List α) : Prop := ∃ rs : List Addr, H t = some (.tup (rs.map V.ref)) ∧ rs.length = xs.length ∧ ∀ (i : Nat) r b, rs[i]? = some r → xs[i]? = some b → H r = some (.tup (f b))
/-- at t stands a list of such tuples -/
def LRowsAt {α : Type} (f : α → List V) (H : Hp) (t : Addr) (xs : List α) : Prop := ∃ rs : List Addr, H t = some (.lst (rs.map V.ref)) ∧ rs.length = xs.length ∧ ∀ (i : Nat) r b, rs[i]? = some r → xs[i]? = some b → H r = some (.tup (f b))
section
variable {α : Type} {f : α → List V}
theorem RowsAt.same {H H' : Hp} {t : Addr} {xs : List α} (h : RowsAt f H t xs) (s : Same H H') : RowsAt f H' t xs := by
  obtain ⟨rs, h1, h2, h3⟩ := h
  exact ⟨rs, s _ _ h1, h2, fun i r b hr hb => s _ _ (h3 i r b hr hb)⟩
theorem LRowsAt.same {H H' : Hp} {t : Addr} {xs : List α} (h : LRowsAt f H t xs) (s : Same H H') : LRowsAt f H' t xs := by
  obtain ⟨rs, h1, h2, h3⟩ := h
  exact ⟨rs, s _ _ h1, h2, fun i r b hr hb => s _ _ (h3 i r b hr hb)⟩
theorem RowsAt.fx {H H' : Hp} {t a : Addr} {xs : List α} {n : Nat} (h : RowsAt f H t xs) (v : Vt n H a) (g : Fx a H H') : RowsAt f H' t xs := by
  obtain ⟨rs, h1, h2, h3⟩ := h
  exact ⟨rs, g _ _ (v.neT h1) h1, h2, fun i r b hr hb => g _ _ (v.neT (h3 i r b hr hb)) (h3 i r b hr hb)⟩
theorem LRowsAt.fx {H H' : Hp} {t a : Addr} {xs : List α} {n : Nat} (h : LRowsAt f H t xs) (ne : t ≠ a) (v : Vt n H a) (g : Fx a H H') : LRowsAt f H' t xs := by
  obtain ⟨rs, h1, h2, h3⟩ := h
  exact ⟨rs, g _ _ ne h1, h2, fun i r b hr hb => g _ _ (v.neT (h3 i r b hr hb)) (h3 i r b hr hb)⟩
theorem RowsAt.put {H : Hp} {t p : Addr} {bs : List α} {o : HO} {ys : List V} (h : RowsAt f H t bs) (hp : H p = some (.lst ys)) : RowsAt f (upd H p o) t bs := by
  obtain ⟨rs, h1, h2, h3⟩ := h
  refine ⟨rs, ?_, h2, fun i r b hr hb => ?_⟩
  · rw [upd_ne (ne_of h1 hp (by intro z; cases z))]
    exact h1
  · have h4 := h3 i r b hr hb
    rw [upd_ne (ne_of h4 hp (by intro z; cases z))]
    exact h4
/-- the i-th row -/
theorem row_at {xs : List α} {rs : List Addr} (hl : rs.length = xs.length) {i : Nat} {x : V} (h : (rs.map V.ref)[i]? = some x) : ∃ r b, x = .ref r ∧ rs[i]? = some r ∧ xs[i]? = some b := by
  rw [List.getElem?_map] at h
  have hi : i < rs.length := by
    have := (List.getElem?_eq_some_iff.mp (show (rs.map V.ref)[i]? = some x by rw [List.getElem?_map]; exact h)).1
    rwa [List.length_map] at this
  rw [List.getElem?_eq_getElem hi] at h
  exact ⟨rs[i], xs[i]'(by omega), (Option.some.inj h).symm, List.getElem?_eq_getElem hi, List.getElem?_eq_getElem _⟩
theorem RowsAt.get {K : PySem.W.Frag} {H : Hp} {t : Addr} {xs : List α} (h : RowsAt f H t xs) : ∃ rs : List Addr, SqT K H t (rs.map V.ref) ∧ rs.length = xs.length ∧ ∀ (i : Nat) b, xs[i]? = some b → ∃ r, rs[i]? = some r ∧ (rs.map V.ref)[i]? = some (V.ref r) ∧ SqT K H r (f b) := by
  obtain ⟨rs, h1, h2, h3⟩ := h
  refine ⟨rs, SqT.of h1, h2, fun i b hb => ?_⟩
  have hl := (List.getElem?_eq_some_iff.mp hb).1
  have hr : rs[i]? = some (rs[i]'(by omega)) := List.getElem?_eq_getElem _
  exact ⟨_, hr, by rw [List.getElem?_map, hr]; rfl, SqT.of (h3 i _ b hr hb)⟩
end
/-! ### kinds of a purse in plain Lean -/
abbrev Kind : Type := Int × Int
def kindT (k : Kind) : List V := [.int k.1, .int k.2]
abbrev KindsAt (H : Hp) (t : Addr) (ks : List Kind) : Prop := RowsAt kindT H t ks
structure GoodK (ks : List Kind) : Prop where
  len1 : 1 ≤ ks.length
  len30 : ks.length ≤ 30
  low : ∀ k ∈ ks, 0 ≤ k.1
  rises : ∀ (i : Nat) b c, ks[i]? = some b → ks[i + 1]? = some c → b.1 < c.1
  amt : ∀ k ∈ ks, k.1 ≤ 10 ^ 36
  cnt : ∀ k ∈ ks, 1 ≤ k.2 ∧ k.2 ≤ 10 ^ 72
theorem GoodK.ne {ks : List Kind} (g : GoodK ks) : ks ≠ [] := fun z => by
  have := g.len1
  rw [z] at this
  simp at this
def peopleOf (ks : List Kind) : Int := (ks.map fun k => k.2).sum
def totalOf (ks : List Kind) : Int := (ks.map fun k => k.1 * k.2).sum
/-- at r stands a purse object of these kinds -/
def PurseAt (C : Addr) (H : Hp) (r : Addr) (ks : List Kind) : Prop := ∃ dx t : Addr, H r = some (.ins C dx [("_kinds", .ref t)]) ∧ KindsAt H t ks ∧ GoodK ks
theorem PurseAt.fx {C : Addr} {H H' : Hp} {r a : Addr} {ks : List Kind} {n : Nat} (h : PurseAt C H r ks) (v : Vt n H a) (f : Fx a H H') : PurseAt C H' r ks := by
  obtain ⟨dx, t, h1, h2, g⟩ := h
  exact ⟨dx, t, f _ _ (v.neI h1) h1, h2.fx v f, g⟩
theorem PurseAt.same {C : Addr} {H H' : Hp} {r : Addr} {ks : List Kind} (h : PurseAt C H r ks) (s : Same H H') : PurseAt C H' r ks := by
  obtain ⟨dx, t, h1, h2, g⟩ := h
  exact ⟨dx, t, s _ _ h1, h2.same s, g⟩
theorem PurseAt.put {C : Addr} {H : Hp} {r p : Addr} {ks : List Kind} {o : HO} {xs : List V} (h : PurseAt C H r ks) (hp : H p = some (.lst xs)) : PurseAt C (upd H p o) r ks := by
  obtain ⟨dx, t, h1, h2, g⟩ := h
  refine ⟨dx, t, ?_, h2.put hp, g⟩
  rw [upd_ne (ne_of h1 hp (by intro z; cases z))]
  exact h1
/-! ### a kind's line, a purse's sheet -/
theorem nI_intK {i : Int} (h : i.natAbs < 10 ^ 75) : intText? (nI i) = some i := by
  have hl := nI_len (k := 75) (by decide) h
  by_cases c : i < 0
  · have e : (nI i).cps.toList = 45 :: numL i.natAbs := by
      have := tl_nI i
      rw [if_pos c] at this
      exact this
    rw [PySem.intText_neg e (numL_digits _) (numL_ne _) (by omega), numL_val]
    congr 1
    omega
  · have e : (nI i).cps.toList = numL i.natAbs := by
      have := tl_nI i
      rw [if_neg c] at this
      exact this
    rw [PySem.intText_digits (by rw [e]; exact numL_digits _) (by rw [e]; exact numL_ne _) (by omega), e, numL_val]
    congr 1
    omega
theorem log_shortK {n : Nat} (h : n < 10 ^ 120) : n.log2 < 1920 := by
  by_cases z : n = 0
  · subst z
    decide
  · rw [Nat.log2_lt z]
    exact Nat.lt_trans h (by decide)
/-- a kind whose numbers are short -/
def ShortK (k : Kind) : Prop := k.1.natAbs < 10 ^ 75 ∧ k.2.natAbs < 10 ^ 75
theorem GoodK.short {ks : List Kind} (g : GoodK ks) {k : Kind} (h : k ∈ ks) : ShortK k := by
  have h1 := g.low k h
  have h2 := g.amt k h
  have h3 := g.cnt k h
  refine ⟨?_, ?_⟩ <;> omega
def lineK (k : Kind) : Str := Txt.join (Str.ofString " ") [nI k.2, Str.ofString "of", nI k.1]
def sheetOf (ks : List Kind) : Str := Txt.join (Str.ofString "\n") (ks.map lineK)
theorem lineK_split (b : Kind) : Txt.split (lineK b) (Str.ofString " ") = [nI b.2, Str.ofString "of", nI b.1] := by
  refine split_join sp_tl (by decide +kernel) (by simp) fun p hp => ?_
  simp only [List.mem_cons, List.not_mem_nil, or_false] at hp
  rcases hp with e | e | e <;> rw [e]
  · exact nI_no (by decide) (by decide)
  · decide +kernel
  · exact nI_no (by decide) (by decide)
theorem lineK_tl (b : Kind) : tl (lineK b) = joinL [32] ([nI b.2, Str.ofString "of", nI b.1].map tl) := by
  unfold lineK
  rw [join_eq, tl_join, sp_tl]
theorem lineK_free (b : Kind) : 10 ∉ tl (lineK b) := fun z => by
  rw [lineK_tl] at z
  rcases joinL_mem z with y | ⟨x, hx, hc⟩
  · simp at y
  · obtain ⟨p, hp, rfl⟩ := List.mem_map.mp hx
    simp only [List.mem_cons, List.not_mem_nil, or_false] at hp
    rcases hp with e | e | e <;> rw [e] at hc <;> revert hc
    · exact nI_no (by decide) (by decide)
    · decide +kernel
    · exact nI_no (by decide) (by decide)
theorem sheet_split {ks : List Kind} (h : ks ≠ []) : Txt.split (sheetOf ks) (Str.ofString "\n") = ks.map lineK := by
  refine split_join nl_tl (by decide +kernel) (by simpa using h) fun p hp => ?_
  obtain ⟨b, _, rfl⟩ := List.mem_map.mp hp
  exact lineK_free b
theorem lineK_len {b : Kind} (h : ShortK b) : (lineK b).length ≤ 200 := by
  have h1 := nI_len (k := 75) (by decide) h.1
  have h2 := nI_len (k := 75) (by decide) h.2
  have k := join_len (Str.ofString " ") [nI b.2, Str.ofString "of", nI b.1]
  have l1 : (Str.ofString "of").length = 2 := by decide +kernel
  have l4 : (Str.ofString " ").length = 1 := by decide +kernel
  simp only [List.map_cons, List.map_nil, List.sum_cons, List.sum_nil, List.length_cons, List.length_nil, l1, l4] at k
  unfold lineK
  omega
theorem GoodK.lines_len {ks : List Kind} (g : GoodK ks) : ((ks.map lineK).map (·.length)).sum + (ks.map lineK).length * (Str.ofString "\n").length ≤ 7000 := by
  have h := sum_le (l := ks.map lineK) (n := 200) fun x hx => by
    obtain ⟨b, hb, rfl⟩ := List.mem_map.mp hx
    exact lineK_len (g.short hb)
  have l1 : (Str.ofString "\n").length = 1 := by decide +kernel
  have := g.len30
  rw [List.length_map] at h
  rw [l1, List.length_map]
  omega
theorem GoodK.sheet_len {ks : List Kind} (g : GoodK ks) : (sheetOf ks).length ≤ 7000 := Nat.le_trans (join_len _ _) g.lines_len
theorem lineK_add (b : Kind) : (nI b.2 ++ Str.ofString " of ") ++ nI b.1 = lineK b := by
  have e1 : tl (Str.ofString " of ") = [32] ++ (tl (Str.ofString "of") ++ [32]) := by decide +kernel
  refine ext_tl ?_
  rw [lineK_tl]
  simp only [tl_append, e1, List.map_cons, List.map_nil]
  simp only [joinL, List.append_assoc]
theorem lineK_fmt (b : Kind) : ((Str.empty ++ nI b.2) ++ Str.ofString " of ") ++ nI b.1 = lineK b := by
  rw [empty_add]
  exact lineK_add b
theorem lit_of : (Str.ofString " of ").length = 4 := by decide +kernel
/-! ### kinds as data -/
def kindD (b : Kind) : PyData := .tuple [.int b.1, .int b.2]
def kindsD (ks : List Kind) : PyData := .tuple (ks.map kindD)
theorem dp_kind {K : PySem.W.Frag} {H : Hp} {r : Addr} {b : Kind} (h : SqT K H r (kindT b)) : Dp K H (.ref r) (kindD b) := .tup h (.cons (.int _) (.cons (.int _) .nil))
theorem dp_allK {K : PySem.W.Frag} {H : Hp} : ∀ (rs : List Addr) (bs : List Kind), rs.length = bs.length → (∀ (i : Nat) r b, rs[i]? = some r → bs[i]? = some b → H r = some (.tup (kindT b))) → DpAll K H (rs.map V.ref) (bs.map kindD)
  | [], [], _, _ => .nil
  | [], _ :: _, h, _ => by simp at h
  | _ :: _, [], h, _ => by simp at h
  | r :: rs, b :: bs, h, g => .cons (dp_kind (SqT.of (g 0 r b rfl rfl))) (dp_allK rs bs (by simpa using h) fun i x y hx hy => g (i + 1) x y hx hy)
theorem kinds_dp {K : PySem.W.Frag} {H : Hp} {t : Addr} {ks : List Kind} (h : KindsAt H t ks) : Dp K H (.ref t) (kindsD ks) := by
  obtain ⟨rs, h1, h2, h3⟩ := h
  exact .tup (SqT.of h1) (dp_allK rs ks h2 h3)
theorem lay_kinds : ∀ bs : List Kind, PyData.canLayAll0 (bs.map kindD) = true
  | [] => rfl
  | b :: r => by
    rw [List.map_cons, PyData.canLayAll0, lay_kinds r]
    rfl
theorem depth_kinds : ∀ bs : List Kind, PyData.depthAll (bs.map kindD) ≤ 3
  | [] => by simp [PyData.depthAll]
  | b :: r => by
    have := depth_kinds r
    simp only [List.map_cons, PyData.depthAll, kindD, PyData.depth]
    omega
theorem shaped_kinds (bs : List Kind) : SeqAt.shaped (kindsD bs) = true := by
  unfold SeqAt.shaped kindsD
  rw [Bool.and_eq_true]
  refine ⟨lay_kinds bs, decide_eq_true ?_⟩
  have := depth_kinds bs
  simp only [PyData.depth]
  omega
theorem lineK_lt (b : Kind) : ∀ c ∈ tl (lineK b), c < 128 := fun c hc => by
  rw [lineK_tl] at hc
  have n : ∀ i : Int, ∀ c ∈ tl (nI i), c < 128 := fun i c h => by
    have := nI_chars i c h
    omega
  rcases joinL_mem hc with y | ⟨x, hx, hc⟩
  · rw [List.mem_singleton.mp y]
    decide
  · obtain ⟨p, hp, rfl⟩ := List.mem_map.mp hx
    simp only [List.mem_cons, List.not_mem_nil, or_false] at hp
    rcases hp with e | e | e <;> rw [e] at hc
    · exact n _ c hc
    · exact lit_lt (by decide +kernel) c hc
    · exact n _ c hc
theorem sheet_lt (ks : List Kind) : ∀ c ∈ tl (sheetOf ks), c < 128 := fun c hc => by
  have e : tl (sheetOf ks) = joinL [10] ((ks.map lineK).map tl) := by
    unfold sheetOf
    rw [join_eq, tl_join, nl_tl]
  rw [e] at hc
  rcases joinL_mem hc with y | ⟨x, hx, hc⟩
  · rw [List.mem_singleton.mp y]
    decide
  · obtain ⟨p, hp, rfl⟩ := List.mem_map.mp hx
    obtain ⟨b, _, rfl⟩ := List.mem_map.mp hp
    exact lineK_lt b c hc
/-! ### sheets tell their kinds -/
/-! ### sums -/
theorem people_app (a b : List Kind) : peopleOf (a ++ b) = peopleOf a + peopleOf b := by
  unfold peopleOf
  rw [List.map_append, List.sum_append]
theorem total_app (a b : List Kind) : totalOf (a ++ b) = totalOf a + totalOf b := by
  unfold totalOf
  rw [List.map_append, List.sum_append]
theorem sum_bound (f : Kind → Int) {m : Int} : ∀ {ks : List Kind}, (∀ k ∈ ks, 0 ≤ f k ∧ f k ≤ m) → 0 ≤ (ks.map f).sum ∧ (ks.map f).sum ≤ ks.length * m
  | [], _ => by simp
  | k :: r, h => by
    obtain ⟨h1, h2⟩ := h k List.mem_cons_self
    obtain ⟨h3, h4⟩ := sum_bound f (ks := r) fun x hx => h x (List.mem_cons_of_mem _ hx)
    rw [List.map_cons, List.sum_cons, List.length_cons]
    refine ⟨by omega, ?_⟩
    have e : ((r.length + 1 : Nat) : Int) * m = r.length * m + m := by
      rw [Int.natCast_add, Int.add_mul]
      simp
    rw [e]
    omega
theorem GoodK.people_le {ks : List Kind} (g : GoodK ks) : 0 ≤ peopleOf ks ∧ peopleOf ks ≤ 30 * 10 ^ 72 := by
  obtain ⟨h1, h2⟩ := sum_bound (fun k => k.2) (m := 10 ^ 72) (ks := ks) fun k hk => ⟨by have := (g.cnt k hk).1; omega, (g.cnt k hk).2⟩
  refine ⟨h1, Int.le_trans h2 ?_⟩
  have := g.len30
  exact Int.mul_le_mul_of_nonneg_right (by omega) (by decide)
theorem GoodK.total_le {ks : List Kind} (g : GoodK ks) : 0 ≤ totalOf ks ∧ totalOf ks ≤ 30 * (10 ^ 36 * 10 ^ 72) := by
  obtain ⟨h1, h2⟩ := sum_bound (fun k => k.1 * k.2) (m := 10 ^ 36 * 10 ^ 72) (ks := ks) fun k hk => by
    have c := g.cnt k hk
    have a := g.amt k hk
    have l := g.low k hk
    exact ⟨Int.mul_nonneg l (by omega), Int.mul_le_mul a c.2 (by omega) (by decide)⟩
  refine ⟨h1, Int.le_trans h2 ?_⟩
  have := g.len30
  exact Int.mul_le_mul_of_nonneg_right (by omega) (by decide)
end Ev
namespace Ev
open PySem PySem.Spec PyProof.Rows L2 TL
theorem lt_wide {i : Int} {n : Nat} (h0 : 0 ≤ i) (h1 : i ≤ n) (b : Nat) (h : n < 2 ^ b) : i.natAbs < 2 ^ b := Nat.lt_of_le_of_lt (by omega) h
theorem GoodK.mul_ok {ks : List Kind} (g : GoodK ks) {k : Kind} (h : k ∈ ks) : CMulW k.1 k.2 := by
  have a := g.amt k h
  have l := g.low k h
  have c := g.cnt k h
  exact wide_mul (a := 120) (b := 240) (lt_wide (n := 10 ^ 36) l (by exact_mod_cast a) _ (by decide)) (lt_wide (n := 10 ^ 72) (by omega) (by exact_mod_cast c.2) _ (by decide)) (by decide) (by decide) (by decide)
end Ev

set_option Elab.async false
set_option linter.all false
set_option maxRecDepth 100000
set_option maxHeartbeats 4000000
namespace Ev
open PySem PySem.Spec PyProof.Rows L2 TL
/-! ### promises of a purse's defs -/
def spReadIntK : Sp := fun vs H Q _ => ∃ i : Int, vs = [.str (nI i)] ∧ i.natAbs < 10 ^ 75 ∧ Q (.int i) H
def spKindOf : Sp := fun vs H Q _ => ∃ b : Kind, vs = [.str (lineK b)] ∧ ShortK b ∧ ∀ r H', H r = none → Same H H' → H' r = some (.tup (kindT b)) → Q (.ref r) H'
def spIsKind (K : PySem.W.Frag) : Sp := fun vs H Q _ => ∃ (r : Addr) (b : Kind) (lo : Int), vs = [.ref r, .int lo] ∧ SqT K H r (kindT b) ∧
  Q (.bl (decide (lo ≤ b.1 ∧ b.1 ≤ 10 ^ 36) && decide (1 ≤ b.2 ∧ b.2 ≤ 10 ^ 36 * 10 ^ 36))) H
def spNoneK : Sp := fun vs H Q _ => ∃ (t : Addr) (ks : List Kind), vs = [.ref t] ∧ KindsAt H t ks ∧ GoodK ks ∧ ∀ H', Same H H' → Q .non H'
def spInitK (C : Addr) : Sp := fun vs H Q _ => ∃ (r dx t : Addr) (ks : List Kind), vs = [.ref r, .ref t] ∧ H r = some (.ins C dx []) ∧ KindsAt H t ks ∧ GoodK ks ∧ ∀ H', Fx r H H' → H' r = some (.ins C dx [("_kinds", .ref t)]) → Q .non H'
def spPurse (C : Addr) : Sp := fun vs H Q _ => ∃ (t : Addr) (ks : List Kind), vs = [.ref t] ∧ KindsAt H t ks ∧ GoodK ks ∧ ∀ (r : Addr) (H' : Hp), H r = none → Same H H' → PurseAt C H' r ks → Q (.ref r) H'
def spStrK (C : Addr) : Sp := fun vs H Q _ => ∃ (r : Addr) (ks : List Kind), vs = [.ref r] ∧ PurseAt C H r ks ∧ ∀ H', Same H H' → Q (.str (sheetOf ks)) H'
def spLenK (C : Addr) : Sp := fun vs H Q _ => ∃ (r : Addr) (ks : List Kind), vs = [.ref r] ∧ PurseAt C H r ks ∧ Q (.int (ks.length : Nat)) H
def spEqK (C : Addr) : Sp := fun vs H Q _ => ∃ (r s : Addr) (ks ms : List Kind), vs = [.ref r, .ref s] ∧ PurseAt C H r ks ∧ PurseAt C H s ms ∧ Q (.bl (decide (ks = ms))) H
def spReadK (C : Addr) : Sp := fun vs H Q _ => ∃ ks : List Kind, vs = [.ref C, .str (sheetOf ks)] ∧ GoodK ks ∧ ∀ r H', H r = none → Same H H' → PurseAt C H' r ks → Q (.ref r) H'
def spSheet : Sp := fun vs H Q _ => ∃ (t : Addr) (ks : List Kind), vs = [.ref t] ∧ KindsAt H t ks ∧ GoodK ks ∧ ∀ H', Same H H' → Q (.str (sheetOf ks)) H'
/-- people, total -/
def spSum (C : Addr) (f : List Kind → Int) : Sp := fun vs H Q _ => ∃ (r : Addr) (ks : List Kind), vs = [.ref r] ∧ PurseAt C H r ks ∧ ∀ H', Same H H' → Q (.int (f ks)) H'
/-- Purse(kinds) from its __init__ -/
theorem purse_made {C : Addr} (vs : List V) (H : Hp) (Q : VK) (h : spPurse C vs H Q E0) (r dx : Addr) (h1 : H r = none) (h2 : H dx = none) (h3 : dx ≠ r) :
    spInitK C (.ref r :: vs) (upd (upd H dx (.own r)) r (.ins C dx [])) (fun v H2 => v = .non ∧ Q (.ref r) H2) E0 := by
  obtain ⟨t, ks, rfl, hB, g, q⟩ := h
  have s1 : Same H (upd (upd H dx (.own r)) r (.ins C dx [])) := (same_new h2).trans (same_new (by rw [upd_ne (Ne.symm h3)]; exact h1))
  refine ⟨r, dx, t, ks, rfl, upd_same, hB.same s1, g, fun H' fx hr => ⟨rfl, ?_⟩⟩
  have s2 : Same H H' := fun b o e => fx b o (ne_of_none e h1) (s1 b o e)
  exact q r H' h1 s2 ⟨dx, t, hr, hB.same s2, g⟩
/-! ### the kinds that a law draws -/
def spKinds : Sp := fun vs H Q _ => ∃ (a : Addr) (most : Int) (zeros counts : Nat) (n : Nat), vs = [.ref a, .int most, .int zeros, .int counts] ∧ 1 ≤ most ∧ most ≤ 30 ∧ (zeros = 0 ∨ (4 ≤ zeros ∧ zeros ≤ 36)) ∧ (counts = 0 ∨ (2 ≤ counts ∧ counts ≤ 72)) ∧ Vt n H a ∧ n ≤ 800000000 ∧
  ∀ (t : Addr) (ks : List Kind) (H' : Hp), H t = none → Fx a H H' → KindsAt H' t ks → GoodK ks → ks.length ≤ most.toNat → (∀ k ∈ ks, k.1 ≤ (if zeros = 0 then 5 * most else 10 ^ zeros)) → (∀ k ∈ ks, k.2 ≤ (if counts = 0 then 3 else 10 ^ counts)) → Vt (n + 5000) H' a → Q (.ref t) H'
/-- what an amount grows by at most, in a lap -/
def lapMost (zeros : Nat) : Int := if zeros = 0 then 5 else 1 + 10 ^ (zeros - 2) / 2
end Ev

set_option Elab.async false
set_option linter.all false
set_option maxRecDepth 100000
set_option maxHeartbeats 4000000
namespace Ev
open PySem PySem.Spec PyProof.Rows L2 TL
/-! ### what can be shown by repr -/
structure Fit (x : PyData) (n d : Nat) : Prop where
  sh : x.showable = true
  nd : x.hasDict = false
  dp : x.depth ≤ d
  ln : x.shown.length ≤ n
theorem Fit.mono {x : PyData} {n m d e : Nat} (h : Fit x n d) (hn : n ≤ m) (hd : d ≤ e) : Fit x m e := ⟨h.sh, h.nd, Nat.le_trans h.dp hd, Nat.le_trans h.ln hn⟩
theorem fit_int {i : Int} (h : i.natAbs < 10 ^ 120) : Fit (.int i) 121 1 := by
  have l := log_shortK h
  refine ⟨?_, rfl, ?_, nI_len (k := 120) (by decide) h⟩
  · simp only [PyData.showable, decide_eq_true l]
  · simp only [PyData.depth]; decide
theorem fit_str {s : Str} {n : Nat} (h : ∀ c ∈ tl s, c < 128) (hl : s.length ≤ n) : Fit (.str s) (10 * n + 2) 1 := by
  refine ⟨rfl, rfl, by simp only [PyData.depth]; decide, ?_⟩
  have h := PySem.StrLaws.reprText_len s fun c hc => Nat.lt_trans (h c hc) (by decide)
  show (reprText s).length ≤ _
  omega
theorem fits_show : ∀ {xs : List PyData} {n d : Nat}, (∀ x ∈ xs, Fit x n d) → PyData.showableAll xs = true ∧ PyData.hasDictAll xs = false ∧ PyData.depthAll xs ≤ d ∧ ∀ t ∈ PyData.shownAll xs, t.length ≤ n
  | [], n, d, _ => ⟨rfl, rfl, Nat.zero_le _, fun t h => by cases h⟩
  | x :: r, n, d, h => by
    obtain ⟨h1, h2, h3, h4⟩ := fits_show (xs := r) fun y hy => h y (List.mem_cons_of_mem _ hy)
    have hx := h x List.mem_cons_self
    refine ⟨?_, ?_, ?_, fun t ht => ?_⟩
    · rw [PyData.showableAll, hx.sh, h1]; rfl
    · rw [PyData.hasDictAll, hx.nd, h2]; rfl
    · simp only [PyData.depthAll]
      have := hx.dp
      omega
    · rcases List.mem_cons.mp (show t ∈ x.shown :: PyData.shownAll r from ht) with e | e
      · rw [e]; exact hx.ln
      · exact h4 t e
theorem shownAll_len : ∀ xs : List PyData, (PyData.shownAll xs).length = xs.length
  | [] => rfl
  | x :: r => by
    show (x.shown :: PyData.shownAll r).length = _
    rw [List.length_cons, List.length_cons, shownAll_len r]
theorem fit_tuple {xs : List PyData} {n d : Nat} (ne : xs ≠ []) (h : ∀ x ∈ xs, Fit x n d) : Fit (.tuple xs) (3 + xs.length * (n + 2)) (d + 1) := by
  obtain ⟨h1, h2, h3, h4⟩ := fits_show h
  refine ⟨h1, h2, by simp only [PyData.depth]; omega, ?_⟩
  show (tupleText (PyData.shownAll xs)).length ≤ _
  have := tuple_le (PyData.shownAll xs) (by
    intro z
    have := shownAll_len xs
    rw [z] at this
    exact ne (List.eq_nil_of_length_eq_zero this.symm))
  have := piled_all _ h4
  rw [shownAll_len] at this
  omega
theorem show_tuple {xs : List PyData} {n d : Nat} (ne : xs ≠ []) (h : ∀ x ∈ xs, Fit x n d) (hd : d ≤ 149) (hn : xs.length * (n + 2) ≤ 16777000) : isDisplay (.tuple xs) = true ∧ (PyData.tuple xs).showable = true ∧ (PyData.tuple xs).hasDict = false ∧ (PyData.tuple xs).depth ≤ 150 ∧ (PyData.tuple xs).shown.length ≤ sizeLine := by
  have f := fit_tuple ne h
  have := f.ln
  have := f.dp
  exact ⟨rfl, f.sh, f.nd, by omega, by rw [sizeLine_eq]; omega⟩
theorem fit_sheet {ks : List Kind} (g : GoodK ks) : Fit (.str (sheetOf ks)) 70002 1 := fit_str (n := 7000) (sheet_lt ks) g.sheet_len
/-- three, two, .. fits in a list -/
theorem fits_nil {n d : Nat} : ∀ x ∈ ([] : List PyData), Fit x n d := fun x h => by cases h
theorem fits_cons {x : PyData} {r : List PyData} {n d : Nat} (h : Fit x n d) (hr : ∀ y ∈ r, Fit y n d) : ∀ y ∈ x :: r, Fit y n d := fun y hy => by
  rcases List.mem_cons.mp hy with e | e
  · rw [e]; exact h
  · exact hr y e
/-- kinds, their sheet, a truth: as one list -/
def sheetKD (ks : List Kind) (z : Bool) : PyData := .list [kindsD ks, .str (sheetOf ks), .bool z]
end Ev

set_option Elab.async false
set_option linter.all false
set_option maxRecDepth 100000
set_option maxHeartbeats 4000000
namespace Ev
open PySem PySem.Spec PyProof.Rows L2 TL
/-! ### rows by their addresses -/
structure RowsL {α : Type} (f : α → List V) (H : Hp) (rs : List Addr) (xs : List α) : Prop where
  len : rs.length = xs.length
  at_ : ∀ (i : Nat) r b, rs[i]? = some r → xs[i]? = some b → H r = some (.tup (f b))
section
variable {α : Type} {f : α → List V} {H H' : Hp} {rs ss : List Addr} {xs ys : List α}
theorem RowsAt.rows {t : Addr} (h : RowsAt f H t xs) : ∃ rs : List Addr, H t = some (.tup (rs.map V.ref)) ∧ RowsL f H rs xs := by
  obtain ⟨rs, h1, h2, h3⟩ := h
  exact ⟨rs, h1, h2, h3⟩
theorem RowsL.tup {t : Addr} (h : RowsL f H rs xs) (ht : H t = some (.tup (rs.map V.ref))) : RowsAt f H t xs := ⟨rs, ht, h.len, h.at_⟩
theorem RowsL.lst {t : Addr} (h : RowsL f H rs xs) (ht : H t = some (.lst (rs.map V.ref))) : LRowsAt f H t xs := ⟨rs, ht, h.len, h.at_⟩
theorem RowsL.same (h : RowsL f H rs xs) (s : Same H H') : RowsL f H' rs xs := ⟨h.len, fun i r b h1 h2 => s _ _ (h.at_ i r b h1 h2)⟩
theorem RowsL.put {p : Addr} {o : HO} {ys : List V} (h : RowsL f H rs xs) (hp : H p = some (.lst ys)) : RowsL f (upd H p o) rs xs := ⟨h.len, fun i r b h1 h2 => by
  have h4 := h.at_ i r b h1 h2
  rw [upd_ne (ne_of h4 hp (by intro z; cases z))]
  exact h4⟩
theorem RowsL.nil : RowsL f H [] [] := ⟨rfl, fun i r b h => by cases h⟩
theorem RowsL.one {r : Addr} {b : α} (h : H r = some (.tup (f b))) : RowsL f H [r] [b] := ⟨rfl, fun i r' b' h1 h2 => by
  match i, h1, h2 with
  | 0, h1, h2 => cases h1; cases h2; exact h
  | i + 1, h1, h2 => cases h1⟩
theorem RowsL.app (h : RowsL f H rs xs) (h' : RowsL f H ss ys) : RowsL f H (rs ++ ss) (xs ++ ys) := by
  refine ⟨by rw [List.length_append, List.length_append, h.len, h'.len], fun i r b h1 h2 => ?_⟩
  by_cases c : i < rs.length
  · rw [List.getElem?_append_left c] at h1
    rw [List.getElem?_append_left (by rw [← h.len]; exact c)] at h2
    exact h.at_ i r b h1 h2
  · rw [List.getElem?_append_right (by omega)] at h1
    rw [List.getElem?_append_right (by rw [← h.len]; omega), ← h.len] at h2
    exact h'.at_ _ r b h1 h2
theorem RowsL.take (h : RowsL f H rs xs) (k : Nat) : RowsL f H (rs.take k) (xs.take k) := by
  refine ⟨by rw [List.length_take, List.length_take, h.len], fun i r b h1 h2 => ?_⟩
  have hi := (List.getElem?_eq_some_iff.mp h1).1
  rw [List.length_take] at hi
  rw [List.getElem?_take_of_lt (by omega)] at h1 h2
  exact h.at_ i r b h1 h2
theorem RowsL.drop (h : RowsL f H rs xs) (k : Nat) : RowsL f H (rs.drop k) (xs.drop k) := by
  refine ⟨by rw [List.length_drop, List.length_drop, h.len], fun i r b h1 h2 => ?_⟩
  rw [List.getElem?_drop] at h1 h2
  exact h.at_ _ r b h1 h2
theorem RowsL.snoc {r : Addr} {b : α} (h : RowsL f H rs xs) (hr : H r = some (.tup (f b))) : RowsL f H (rs ++ [r]) (xs ++ [b]) := h.app (RowsL.one hr)
theorem RowsL.get (h : RowsL f H rs xs) {i : Nat} {b : α} (hb : xs[i]? = some b) : ∃ r, rs[i]? = some r ∧ (rs.map V.ref)[i]? = some (V.ref r) ∧ H r = some (.tup (f b)) := by
  have hl := (List.getElem?_eq_some_iff.mp hb).1
  have hr : rs[i]? = some (rs[i]'(by have := h.len; omega)) := List.getElem?_eq_getElem _
  exact ⟨_, hr, by rw [List.getElem?_map, hr]; rfl, h.at_ i _ b hr hb⟩
theorem RowsL.last (h : RowsL f H rs xs) {b : α} (hb : xs.getLast? = some b) : ∃ r, (rs.map V.ref).getLast? = some (V.ref r) ∧ H r = some (.tup (f b)) := by
  rw [List.getLast?_eq_getElem?] at hb
  obtain ⟨r, h1, h2, h3⟩ := h.get hb
  refine ⟨r, ?_, h3⟩
  rw [List.getLast?_eq_getElem?, List.length_map, h.len]
  exact h2
end
/-! ### kinds near to a purse's -/
theorem GoodK.pair {ks : List Kind} (g : GoodK ks) : (ks.map Prod.fst).Pairwise (· < ·) := by
  rw [List.pairwise_map, List.pairwise_iff_getElem]
  intro i j hi hj
  have key : ∀ d (h : i + d + 1 < ks.length), ks[i].1 < ks[i + d + 1].1 := by
    intro d
    induction d with
    | zero => intro h; exact g.rises i _ _ (List.getElem?_eq_getElem hi) (List.getElem?_eq_getElem h)
    | succ d ih =>
      intro h
      have h1 := ih (by omega)
      have h2 := g.rises (i + d + 1) _ _ (List.getElem?_eq_getElem (by omega)) (List.getElem?_eq_getElem h)
      exact Int.lt_trans h1 h2
  intro lt
  have := key (j - i - 1) (by omega)
  have e : i + (j - i - 1) + 1 = j := by omega
  simpa only [e] using this
theorem goodK_of {ks : List Kind} (l1 : 1 ≤ ks.length) (l30 : ks.length ≤ 30) (low : ∀ k ∈ ks, 0 ≤ k.1) (pw : (ks.map Prod.fst).Pairwise (· < ·)) (amt : ∀ k ∈ ks, k.1 ≤ 10 ^ 36) (cnt : ∀ k ∈ ks, 1 ≤ k.2 ∧ k.2 ≤ 10 ^ 72) : GoodK ks where
  len1 := l1
  len30 := l30
  low := low
  rises := fun i b c hb hc => by
    rw [List.pairwise_map, List.pairwise_iff_getElem] at pw
    obtain ⟨h1, e1⟩ := List.getElem?_eq_some_iff.mp hb
    obtain ⟨h2, e2⟩ := List.getElem?_eq_some_iff.mp hc
    have := pw i (i + 1) h1 h2 (by omega)
    rw [e1, e2] at this
    exact this
  amt := amt
  cnt := cnt
/-- another count in the same place -/
theorem GoodK.recount {ks : List Kind} (g : GoodK ks) {f : Kind → Int} (h : ∀ k ∈ ks, 1 ≤ f k ∧ f k ≤ 10 ^ 72) : GoodK (ks.map fun k => (k.1, f k)) := by
  refine goodK_of (by rw [List.length_map]; exact g.len1) (by rw [List.length_map]; exact g.len30) (fun k hk => ?_) ?_ (fun k hk => ?_) (fun k hk => ?_)
  · obtain ⟨x, hx, rfl⟩ := List.mem_map.mp hk
    exact g.low x hx
  · rw [List.map_map]
    exact g.pair
  · obtain ⟨x, hx, rfl⟩ := List.mem_map.mp hk
    exact g.amt x hx
  · obtain ⟨x, hx, rfl⟩ := List.mem_map.mp hk
    exact h x hx
theorem split_at {α : Type} {xs : List α} {j : Nat} {b : α} (h : xs[j]? = some b) : xs = xs.take j ++ [b] ++ xs.drop (j + 1) := by
  have hj := (List.getElem?_eq_some_iff.mp h).1
  have h2 : xs.drop j = b :: xs.drop (j + 1) := by
    rw [List.drop_eq_getElem_cons hj]
    congr 1
    rw [List.getElem?_eq_getElem hj] at h
    exact Option.some.inj h
  rw [List.append_assoc, List.singleton_append, ← h2, List.take_append_drop]
theorem mem_split {α : Type} {xs : List α} {j : Nat} {b x : α} (h : x ∈ xs.take j ++ [b] ++ xs.drop (j + 1)) : x = b ∨ x ∈ xs := by
  rcases List.mem_append.mp h with h | h
  · rcases List.mem_append.mp h with h | h
    · exact .inr (List.mem_of_mem_take h)
    · exact .inl (List.mem_singleton.mp h)
  · exact .inr (List.mem_of_mem_drop h)
theorem GoodK.set {ks : List Kind} (g : GoodK ks) {j : Nat} {b : Kind} {c : Int} (hb : ks[j]? = some b) (h : 1 ≤ c ∧ c ≤ 10 ^ 72) : GoodK (ks.take j ++ [(b.1, c)] ++ ks.drop (j + 1)) := by
  have e := split_at hb
  have hm := List.mem_of_getElem? hb
  have el : (ks.take j ++ [(b.1, c)] ++ ks.drop (j + 1)).length = ks.length := by
    conv => rhs; rw [e]
    simp
  have ef : (ks.take j ++ [(b.1, c)] ++ ks.drop (j + 1)).map Prod.fst = ks.map Prod.fst := by
    conv => rhs; rw [e]
    simp
  refine goodK_of (by rw [el]; exact g.len1) (by rw [el]; exact g.len30) (fun k hk => ?_) (by rw [ef]; exact g.pair) (fun k hk => ?_) (fun k hk => ?_)
  · rcases mem_split hk with z | z
    · rw [z]; exact g.low b hm
    · exact g.low k z
  · rcases mem_split hk with z | z
    · rw [z]; exact g.amt b hm
    · exact g.amt k z
  · rcases mem_split hk with z | z
    · rw [z]; exact h
    · exact g.cnt k z
/-- a part of the kinds -/
theorem GoodK.part {ks ms : List Kind} (g : GoodK ks) (s : ms.Sublist ks) (h : 1 ≤ ms.length) : GoodK ms :=
  goodK_of h (Nat.le_trans s.length_le g.len30) (fun k hk => g.low k (s.subset hk)) (g.pair.sublist (s.map _)) (fun k hk => g.amt k (s.subset hk)) (fun k hk => g.cnt k (s.subset hk))
theorem GoodK.lt_last {ks : List Kind} (g : GoodK ks) {b : Kind} (hb : ks.getLast? = some b) : ∀ k ∈ ks, k.1 ≤ b.1 := by
  obtain ⟨ys, e⟩ := List.getLast?_eq_some_iff.mp hb
  have pw := g.pair
  rw [e, List.map_append, List.pairwise_append] at pw
  intro k hk
  rw [e] at hk
  rcases List.mem_append.mp hk with z | z
  · exact Int.le_of_lt (pw.2.2 k.1 (List.mem_map_of_mem z) b.1 (by simp))
  · rw [List.mem_singleton.mp z]
    exact Int.le_refl _
theorem GoodK.snoc {ks : List Kind} (g : GoodK ks) {b : Kind} {m c : Int} (hb : ks.getLast? = some b) (l : ks.length < 30) (h : b.1 < m) (h2 : m ≤ 10 ^ 36) (hc : 1 ≤ c ∧ c ≤ 10 ^ 72) : GoodK (ks ++ [(m, c)]) := by
  have hl := g.lt_last hb
  have b0 := g.low b (List.mem_of_getLast? hb)
  refine goodK_of (by simp) (by simp; omega) (fun k hk => ?_) ?_ (fun k hk => ?_) (fun k hk => ?_)
  · rcases List.mem_append.mp hk with z | z
    · exact g.low k z
    · rw [List.mem_singleton.mp z]; show 0 ≤ m; omega
  · rw [List.map_append, List.pairwise_append]
    refine ⟨g.pair, by simp, fun x hx y hy => ?_⟩
    obtain ⟨k, hk, rfl⟩ := List.mem_map.mp hx
    have : y = m := by simpa using hy
    have := hl k hk
    omega
  · rcases List.mem_append.mp hk with z | z
    · exact g.amt k z
    · rw [List.mem_singleton.mp z]; exact h2
  · rcases List.mem_append.mp hk with z | z
    · exact g.cnt k z
    · rw [List.mem_singleton.mp z]; exact hc
theorem GoodK.last {ks : List Kind} (g : GoodK ks) : ∃ b, ks.getLast? = some b := ⟨_, List.getLast?_eq_getLast g.ne⟩
/-! ### a row of purses with their kinds -/
structure EnK where
  l : Addr
  r : Addr
  t : Addr
  ks : List Kind
structure EnKAt (C : Addr) (H : Hp) (e : EnK) : Prop where
  l : H e.l = some (.lst [.ref e.r, .ref e.t])
  r : PurseAt C H e.r e.ks
  t : KindsAt H e.t e.ks
  g : GoodK e.ks
theorem EnKAt.same {C : Addr} {H H' : Hp} {e : EnK} (h : EnKAt C H e) (s : Same H H') : EnKAt C H' e := ⟨s _ _ h.l, h.r.same s, h.t.same s, h.g⟩
theorem EnKAt.fx {C a : Addr} {H H' : Hp} {e : EnK} {n : Nat} (h : EnKAt C H e) (v : Vt n H a) (hl : e.l ≠ a) (f : Fx a H H') : EnKAt C H' e := ⟨f _ _ hl h.l, h.r.fx v f, h.t.fx v f, h.g⟩
theorem EnKAt.put {C p : Addr} {H : Hp} {e : EnK} {o : HO} {xs : List V} (h : EnKAt C H e) (hp : H p = some (.lst xs)) (hl : e.l ≠ p) : EnKAt C (upd H p o) e := ⟨by rw [upd_ne hl]; exact h.l, h.r.put hp, h.t.put hp, h.g⟩
structure RowKAt (C : Addr) (H : Hp) (p a : Addr) (es : List EnK) : Prop where
  at_ : H p = some (.lst (es.map fun e => V.ref e.l))
  one : 1 ≤ es.length
  all : ∀ e ∈ es, EnKAt C H e ∧ e.l ≠ p ∧ e.l ≠ a
  pa : p ≠ a
theorem RowKAt.same {C p a : Addr} {H H' : Hp} {es : List EnK} (h : RowKAt C H p a es) (s : Same H H') : RowKAt C H' p a es := ⟨s _ _ h.at_, h.one, fun e he => ⟨(h.all e he).1.same s, (h.all e he).2⟩, h.pa⟩
theorem RowKAt.fx {C p a : Addr} {H H' : Hp} {es : List EnK} {n : Nat} (h : RowKAt C H p a es) (v : Vt n H a) (f : Fx a H H') : RowKAt C H' p a es := ⟨f _ _ h.pa h.at_, h.one, fun e he => ⟨(h.all e he).1.fx v (h.all e he).2.2 f, (h.all e he).2⟩, h.pa⟩
theorem RowKAt.push {C p a : Addr} {H : Hp} {es : List EnK} {e : EnK} (h : RowKAt C H p a es) (he : EnKAt C H e) (hp : e.l ≠ p) (ha : e.l ≠ a) : RowKAt C (upd H p (.lst ((es.map fun e => V.ref e.l) ++ [.ref e.l]))) p a (es ++ [e]) where
  at_ := by rw [upd_same, List.map_append]; rfl
  one := by rw [List.length_append]; have := h.one; omega
  all := fun x hx => by
    rcases List.mem_append.mp hx with z | z
    · obtain ⟨k1, k2, k3⟩ := h.all x z
      exact ⟨k1.put h.at_ k2, k2, k3⟩
    · rw [List.mem_singleton.mp z]
      exact ⟨he.put h.at_ hp, hp, ha⟩
  pa := h.pa
/-- near kinds -/
def spNearK : Sp := fun vs H Q _ => ∃ (a t : Addr) (ks : List Kind) (n : Nat), vs = [.ref a, .ref t] ∧ Vt n H a ∧ n ≤ 700000000 ∧ KindsAt H t ks ∧ GoodK ks ∧
  ∀ (t' : Addr) (ks' : List Kind) (H' : Hp), Fx a H H' → KindsAt H' t' ks' → GoodK ks' → Vt (n + 10) H' a → Q (.ref t') H'
end Ev

set_option Elab.async false
set_option linter.all false
set_option maxRecDepth 100000
set_option maxHeartbeats 4000000
namespace Ev
open PySem PySem.Spec PyProof.Rows L2 TL
/-! ### fractions in least terms -/
def gcdI (a b : Int) : Int := ((Nat.gcd a.natAbs b.natAbs : Nat) : Int)
/-- a fraction in least terms -/
def low (a b : Int) : Int × Int := (a / gcdI a b, b / gcdI a b)
def pairT (p : Int × Int) : List V := [.int p.1, .int p.2]
def pairD (p : Int × Int) : PyData := .tuple [.int p.1, .int p.2]
/-! ### promises: in_least_terms, lowest, kinds_of -/
def spLow : Sp := fun vs H Q _ => ∃ a b : Int, vs = [.int a, .int b] ∧ 0 < b ∧ b.natAbs < 2 ^ 8000 ∧ ∀ p H', H p = none → Same H H' → H' p = some (.tup (pairT (low a b))) → Q (.ref p) H'
def spKindsOf (C : Addr) : Sp := fun vs H Q _ => ∃ (r : Addr) (ks : List Kind), vs = [.ref r] ∧ PurseAt C H r ks ∧ ∀ t H', Same H H' → KindsAt H' t ks → GoodK ks → Q (.ref t) H'
/-! ### unevenness -/
def uneStep (s : Int × Int × Int) (k : Kind) : Int × Int × Int := (s.1 + (k.1 * s.2.1 - s.2.2) * k.2, s.2.1 + k.2, s.2.2 + k.1 * k.2)
def uneOf (ks : List Kind) : Int × Int × Int := ks.foldl uneStep (0, 0, 0)
theorem take_snoc {α : Type} {xs : List α} {i : Nat} {b : α} (h : xs[i]? = some b) : xs.take (i + 1) = xs.take i ++ [b] := by rw [List.take_add_one, h]; rfl
theorem snoc_ind {α : Type} {P : List α → Prop} (h0 : P []) (h1 : ∀ l b, P l → P (l ++ [b])) (l : List α) : P l := by
  have : ∀ n, P (l.take n) := by
    intro n
    induction n with
    | zero => simpa using h0
    | succ n ih =>
      cases e : l[n]? with
      | none => rw [List.take_add_one, e]; simpa using ih
      | some b => rw [take_snoc e]; exact h1 _ _ ih
  have := this l.length
  rwa [List.take_length] at this
theorem people_snoc (ks : List Kind) (k : Kind) : peopleOf (ks ++ [k]) = peopleOf ks + k.2 := by rw [people_app]; simp [peopleOf]
theorem total_snoc (ks : List Kind) (k : Kind) : totalOf (ks ++ [k]) = totalOf ks + k.1 * k.2 := by rw [total_app]; simp [totalOf]
/-- the unevenness as the document has it -/
def uneAns (ks : List Kind) : Int × Int := if totalOf ks = 0 then (0, 1) else low (uneOf ks).1 (peopleOf ks * totalOf ks)
def spUne (C : Addr) : Sp := fun vs H Q _ => ∃ (r : Addr) (ks : List Kind), vs = [.ref r] ∧ PurseAt C H r ks ∧ ∀ p H', H p = none → Same H H' → H' p = some (.tup (pairT (uneAns ks))) → Q (.ref p) H'
/-! ### person by person -/
def heapOf (ks : List Kind) : List Int := ks.flatMap fun k => List.replicate k.2.toNat k.1
theorem heap_snoc (ks : List Kind) (k : Kind) : heapOf (ks ++ [k]) = heapOf ks ++ List.replicate k.2.toNat k.1 := by simp [heapOf]
theorem sum_rep (n : Nat) (a : Int) : (List.replicate n a).sum = n * a := by
  induction n with
  | zero => simp
  | succ n ih =>
    rw [List.replicate_succ, List.sum_cons, ih, Int.natCast_add, Int.add_mul]
    simp
    omega
theorem heap_len {ks : List Kind} (h : ∀ k ∈ ks, 0 ≤ k.2) : ((heapOf ks).length : Int) = peopleOf ks := by
  revert h
  refine snoc_ind (P := fun ks => (∀ k ∈ ks, 0 ≤ k.2) → ((heapOf ks).length : Int) = peopleOf ks) (fun _ => rfl) (fun l b ih h => ?_) ks
  have := ih fun k hk => h k (List.mem_append_left _ hk)
  have := h b (by simp)
  rw [heap_snoc, people_snoc, List.length_append, List.length_replicate]
  omega
theorem heap_sum {ks : List Kind} (h : ∀ k ∈ ks, 0 ≤ k.2) : (heapOf ks).sum = totalOf ks := by
  revert h
  refine snoc_ind (P := fun ks => (∀ k ∈ ks, 0 ≤ k.2) → (heapOf ks).sum = totalOf ks) (fun _ => rfl) (fun l b ih h => ?_) ks
  have e := ih fun k hk => h k (List.mem_append_left _ hk)
  have := h b (by simp)
  rw [heap_snoc, total_snoc, List.sum_append, sum_rep, e]
  have : ((b.2.toNat : Nat) : Int) = b.2 := by omega
  rw [this, Int.mul_comm]
def spHeap : Sp := fun vs H Q _ => ∃ (t : Addr) (ks : List Kind), vs = [.ref t] ∧ KindsAt H t ks ∧ (∀ k ∈ ks, 0 ≤ k.2) ∧ peopleOf ks ≤ 100000 ∧ ∀ p H', H p = none → Same H H' → H' p = some (.lst ((heapOf ks).map V.int)) → Q (.ref p) H'
/-- all pairs' differences, added -/
def pairRow (L : List Int) (n : Nat) : Int := ((List.range n).map fun i => L.getD i 0 * i - (L.take i).sum).sum
def pairOf (L : List Int) : Int := pairRow L L.length
theorem GoodK.cnt0 {ks : List Kind} (g : GoodK ks) : ∀ k ∈ ks, 0 ≤ k.2 := fun k hk => by have := (g.cnt k hk).1; omega
theorem GoodK.take_people {ks : List Kind} (g : GoodK ks) (i : Nat) : 0 ≤ peopleOf (ks.take i) ∧ peopleOf (ks.take i) ≤ 30 * 10 ^ 72 := by
  obtain ⟨h1, h2⟩ := sum_bound (fun k => k.2) (m := 10 ^ 72) (ks := ks.take i) fun k hk => ⟨g.cnt0 k (List.mem_of_mem_take hk), (g.cnt k (List.mem_of_mem_take hk)).2⟩
  refine ⟨h1, Int.le_trans h2 ?_⟩
  have := g.len30
  exact Int.mul_le_mul_of_nonneg_right (by rw [List.length_take]; omega) (by decide)
theorem GoodK.take_total {ks : List Kind} (g : GoodK ks) (i : Nat) : 0 ≤ totalOf (ks.take i) ∧ totalOf (ks.take i) ≤ 30 * (10 ^ 36 * 10 ^ 72) := by
  obtain ⟨h1, h2⟩ := sum_bound (fun k => k.1 * k.2) (m := 10 ^ 36 * 10 ^ 72) (ks := ks.take i) fun k hk => by
    have hk := List.mem_of_mem_take hk
    have c := g.cnt k hk
    have a := g.amt k hk
    have l := g.low k hk
    exact ⟨Int.mul_nonneg l (by omega), Int.mul_le_mul a c.2 (by omega) (by decide)⟩
  refine ⟨h1, Int.le_trans h2 ?_⟩
  have := g.len30
  exact Int.mul_le_mul_of_nonneg_right (by rw [List.length_take]; omega) (by decide)
theorem GoodK.people_pos {ks : List Kind} (g : GoodK ks) : 1 ≤ peopleOf ks := by
  obtain ⟨b, hb⟩ := g.last
  obtain ⟨ys, e⟩ := List.getLast?_eq_some_iff.mp hb
  have c := (g.cnt b (List.mem_of_getLast? hb)).1
  rw [e, people_snoc]
  have : 0 ≤ peopleOf ys := (sum_bound (fun k => k.2) (m := 10 ^ 72) (ks := ys) fun k hk => by have := g.cnt k (by rw [e]; exact List.mem_append_left _ hk); omega).1
  omega
theorem nat_lt2 {i : Int} {b : Nat} (h0 : 0 ≤ i) (h : i < 2 ^ b) : i.natAbs < 2 ^ b := by
  have : (i.natAbs : Int) < ((2 ^ b : Nat) : Int) := by
    rw [Int.natCast_pow]
    have : ((i.natAbs : Nat) : Int) = i := by omega
    rw [this]
    exact h
  exact_mod_cast this
theorem GoodK.bits {ks : List Kind} (g : GoodK ks) (i : Nat) {k : Kind} (h : k ∈ ks) : k.1.natAbs < 2 ^ 120 ∧ k.2.natAbs < 2 ^ 240 ∧ (peopleOf (ks.take i)).natAbs < 2 ^ 246 ∧ (totalOf (ks.take i)).natAbs < 2 ^ 365 := by
  have a := g.amt k h
  have l := g.low k h
  have c := g.cnt k h
  have p := g.take_people i
  have t := g.take_total i
  exact ⟨nat_lt2 l (by omega), nat_lt2 (by omega) (by omega), nat_lt2 p.1 (by omega), nat_lt2 t.1 (by omega)⟩
theorem sub_bits {i j : Int} {a b c : Nat} (hi : i.natAbs < 2 ^ a) (hj : j.natAbs < 2 ^ b) (h1 : a < c) (h2 : b < c) : (i - j).natAbs < 2 ^ c := by
  have x : 2 ^ a ≤ 2 ^ (c - 1) := Nat.pow_le_pow_right (by decide) (by omega)
  have y : 2 ^ b ≤ 2 ^ (c - 1) := Nat.pow_le_pow_right (by decide) (by omega)
  have z : 2 ^ c = 2 ^ (c - 1) * 2 := by rw [← Nat.pow_succ]; congr 1; omega
  omega
theorem add_bits {i j : Int} {a b c : Nat} (hi : i.natAbs < 2 ^ a) (hj : j.natAbs < 2 ^ b) (h1 : a < c) (h2 : b < c) : (i + j).natAbs < 2 ^ c := by
  have x : 2 ^ a ≤ 2 ^ (c - 1) := Nat.pow_le_pow_right (by decide) (by omega)
  have y : 2 ^ b ≤ 2 ^ (c - 1) := Nat.pow_le_pow_right (by decide) (by omega)
  have z : 2 ^ c = 2 ^ (c - 1) * 2 := by rw [← Nat.pow_succ]; congr 1; omega
  omega
end Ev
namespace Ev
end Ev
namespace Ev
open PySem PySem.Spec PyProof.Rows L2 TL
/-- a list of two pairs, shown -/
def twoD (x y : Int × Int) : PyData := .list [pairD x, pairD y]
/-- a purse of one kind, just made -/
theorem kinds_one {H : Hp} {c u : Addr} {k : Kind} (hc : H c = none) (hu : (upd H c (.tup (kindT k))) u = none) : Same H (upd (upd H c (.tup (kindT k))) u (.tup [.ref c])) ∧ KindsAt (upd (upd H c (.tup (kindT k))) u (.tup [.ref c])) u [k] :=
  ⟨(same_new hc).trans (same_new hu), (RowsL.one (f := kindT) (r := c) (same_new hu _ _ upd_same)).tup upd_same⟩
theorem good_one {x c : Int} (h0 : 0 ≤ x) (h1 : x ≤ 10 ^ 36) (h2 : 1 ≤ c) (h3 : c ≤ 10 ^ 72) : GoodK [(x, c)] := by
  refine goodK_of (by show 1 ≤ 1; decide) (by show 1 ≤ 30; decide) (fun k hk => ?_) (by simp) (fun k hk => ?_) (fun k hk => ?_) <;> rw [List.mem_singleton.mp hk]
  · exact h0
  · exact h1
  · exact ⟨h2, h3⟩
end Ev

set_option Elab.async false
set_option linter.all false
set_option maxRecDepth 100000
set_option maxHeartbeats 4000000
namespace Ev
open PySem PySem.Spec PyProof.Rows L2 TL
/-! ### calls by keywords in another order -/
/-- the items at these places -/
def pick {α : Type} (idx : List Nat) (l : List α) : List α := idx.filterMap fun i => l[i]?
theorem vals_pick {vs : List V} {us : List Value} (r : Vals vs us) : ∀ idx : List Nat, Vals (pick idx vs) (pick idx us)
  | [] => .nil
  | i :: idx => by
    have ih := vals_pick r idx
    unfold pick at ih ⊢
    cases h : vs[i]? with
    | none =>
      have h2 : us[i]? = none := by
        rw [List.getElem?_eq_none_iff] at h ⊢
        have := r.length
        omega
      rw [List.filterMap_cons_none h, List.filterMap_cons_none h2]
      exact ih
    | some v =>
      obtain ⟨u, hu, ru⟩ := r.get h
      rw [List.filterMap_cons_some h, List.filterMap_cons_some hu]
      exact .cons ru ih
def KBp (K : PySem.W.Frag) (fd : FuncData) (ps ks : List Str) (idx : List Nat) : Prop := ∀ (s : Shared) (ws : List Value), K.In s.heap → ws.length = ks.length → BindsTo s fd ⟨[], ks.zip ws⟩ (ps.zip (pick idx ws))
theorem Fun.kbp {K : PySem.W.Frag} {x qual : Str} {st : Stmt} {f : Addr} {fd : FuncData} {ps ks : List Str} {idx : List Nat} (F : Fun K x qual st f fd)
    (h : ∀ (kV doc pm : Value) (an : Option Addr) (cdv ct : Value) (ws : List Value), ws.length = ks.length → bindArgs (PySem.W.fnOf x qual (defArgs st) (defBody st) (defScope st) .none kV doc pm an cdv ct) ⟨[], ks.zip ws⟩ = pure (ps.zip (pick idx ws))) : KBp K fd ps ks idx := by
  obtain ⟨oc, od, kV, doc, pm, an, cdv, ct, osl, rfl, lk, hcd⟩ := F.ex
  exact fun s ws _ h2 => .of_eq (h kV doc pm an cdv ct ws h2)
/-- of a def with defaults -/
theorem FunD.kbp {K : PySem.W.Frag} {x qual : Str} {params : Arguments} {body : List Stmt} {scope : Scope} {dvs : List V} {kws : List (Str × V)} {f : Addr} {fd : FuncData} {ps ks : List Str} {idx : List Nat} (F : FunD K x qual params body scope dvs kws f fd) (hd : dvs ≠ [])
    (h : ∀ (T : Addr) (kV doc pm : Value) (an : Option Addr) (cdv ct : Value) (ws its : List Value), ws.length = ks.length → its.length = dvs.length →
      ∃ k, bindArgs (PySem.W.fnOf x qual params body scope (.ref T) kV doc pm an cdv ct) ⟨[], ks.zip ws⟩ = seqItems? (.ref T) >>= k ∧ k (some its.toArray) = pure (ps.zip (pick idx ws))) : KBp K fd ps ks idx := by
  obtain ⟨oc, od, dV, kV, doc, pm, an, cdv, ct, osl, rfl, lk, hcd, hD, hK⟩ := F.ex
  rcases hD with ⟨e, _⟩ | ⟨_, T, o, its, m, rfl, lT, oT, rT⟩
  · exact absurd e hd
  · intro s ws X hl
    obtain ⟨k, e1, e2⟩ := h T kV doc pm an cdv ct ws its hl rT.length.symm
    refine BindsTo.of_looks fun M => ?_
    rw [e1]
    exact looks_items X lT oT (.of_pure e2)
/-- all arguments written by place -/
theorem FunD.bindsAll {K : PySem.W.Frag} {x qual : Str} {params : Arguments} {body : List Stmt} {scope : Scope} {dvs : List V} {kws : List (Str × V)} {f : Addr} {fd : FuncData} {ps : List Str} (F : FunD K x qual params body scope dvs kws f fd) (hd : dvs ≠ [])
    (h : ∀ (T : Addr) (kV doc pm : Value) (an : Option Addr) (cdv ct : Value) (us its : List Value), us.length = ps.length → its.length = dvs.length →
      ∃ k, bindArgs (PySem.W.fnOf x qual params body scope (.ref T) kV doc pm an cdv ct) ⟨us, []⟩ = seqItems? (.ref T) >>= k ∧ k (some its.toArray) = pure (ps.zip us)) : Binds K fd ps [] := by
  obtain ⟨ds, rd, b⟩ := F.binds1 (ps := ps) ps.length dvs.length hd (by rw [Nat.sub_self, Nat.add_zero]) fun T kV doc pm an cdv ct us its h1 h2 => by
    obtain ⟨k, e1, e2⟩ := h T kV doc pm an cdv ct us its h1 h2
    exact ⟨k, e1, by rw [e2, ← h2, List.drop_length, List.append_nil]⟩
  rw [List.drop_length] at rd
  cases rd
  exact b
def KDefP (P : Program) (w : World) (K : PySem.W.Frag) (mg : Str → Option Value) (base : Heap) (x : Str) (ps ks : List Str) (idx : List Nat) (k : Nat) (sp : Sp) : Prop :=
  ∃ f fd, mg x = some (.ref f) ∧ PySem.W.keepIn K (.ref f) = true ∧ KBp K fd ps ks idx ∧ FnOk P w K mg base CX0 k f fd ps sp
def tDefKP (n : Nat) (idx : List Nat) (sp : Sp) (tk : TA) : TE := fun σ H Q => tk σ H fun zs H1 => zs.length = n ∧ sp (pick idx zs) H1 Q E0
theorem pe_defKP {X : Cx} {x : Str} {ps ks : List Str} {idx : List Nat} {k : Nat} {sp : Sp} {p pos : Pos} {kws : List Keyword} {tk : TA} (D : KDefP X.prog X.w X.K X.mg X.base x ps ks idx k sp) (hr : Room k X.A) (hg : Gl X x) (hk : PK X kws tk) (hdb : (x == ("__debug__" : Str)) = false := by decide)
    (hks : (backToKw pos (keywordEach kws X.env)).filterMap (·.1) = ks := by rfl) (hall : (backToKw pos (keywordEach kws X.env)).all (·.1.isSome) = true := by rfl)
    (hpl : ((backTo pos (starEach [] X.env)).any (·.1) || (backToKw pos (keywordEach kws X.env)).any (·.1.isNone)) = false := by rfl) :
    PE X (.Call (.Name x p) [] kws pos) (tDefKP ks.length idx sp tk) := by
  obtain ⟨f, fd, hm, kp, b, G⟩ := D
  refine ⟨fun pins s σ H Q I h => wpAny_Call_Name_kw (ld_glob I hg hm ?_ hdb)⟩
  refine PySem.W.callWith_KW0 (first := []) (h₀ := X.base) I.ok.mod.kin kp hall (thn (hk.run pos pins s σ H _ I h) fun ws s2 ⟨zs, H2, I2, rz, hl, q2⟩ => ⟨I2.kIn, ?_⟩) hpl
  rw [hks]
  exact ran (args := ⟨[] ++ [], ks.zip ws⟩) G hr I2 (b s2 ws I2.kIn (by rw [← rz.length, hl])) (vals_pick rz idx) q2
/-! ### lowest shares -/
def mn (n c : Int) : Int := if c < n then c else n
theorem mn_le (n c : Int) : mn n c ≤ n ∧ mn n c ≤ c := by unfold mn; split <;> omega
theorem mn_nonneg {n c : Int} (h : 0 ≤ n) (h' : 0 ≤ c) : 0 ≤ mn n c := by unfold mn; split <;> omega
def shStep (w : Int) (s : Int × Int) (k : Kind) : Int × Int := (s.1 + k.1 * mn s.2 (k.2 * w), s.2 - mn s.2 (k.2 * w))
def shFold (w n : Int) (ks : List Kind) : Int × Int := ks.foldl (shStep w) (0, n)
theorem shFold_snoc (w n : Int) (ks : List Kind) (k : Kind) : shFold w n (ks ++ [k]) = shStep w (shFold w n ks) k := by simp [shFold]
/-- what the lowest so many pieces hold, each person being that many pieces -/
def walkS (w : Int) : List Kind → Int → Int
  | [], _ => 0
  | k :: r, n => k.1 * mn n (k.2 * w) + walkS w r (n - mn n (k.2 * w))
theorem fold_walk (w : Int) : ∀ (ks : List Kind) (s : Int × Int), (ks.foldl (shStep w) s).1 = s.1 + walkS w ks s.2
  | [], s => by simp [walkS]
  | k :: r, s => by
    rw [List.foldl_cons, fold_walk w r]
    simp only [shStep, walkS]
    omega
theorem shFold_walk (w n : Int) (ks : List Kind) : (shFold w n ks).1 = walkS w ks n := by
  unfold shFold
  rw [fold_walk]
  simp
/-- the lowest share for the fraction part / whole, as the program tells it -/
def shareAns (ks : List Kind) (part whole : Int) : Int × Int := if totalOf ks = 0 then (part, whole) else (walkS whole ks (part * peopleOf ks), totalOf ks * whole)
def heldAns (ks : List Kind) (part whole : Int) : Int × Int := low (shareAns ks part whole).1 (shareAns ks part whole).2
def spShare : Sp := fun vs H Q _ => ∃ (t : Addr) (ks : List Kind) (part whole : Int), vs = [.ref t, .int part, .int whole] ∧ KindsAt H t ks ∧ GoodK ks ∧ 0 ≤ part ∧ part ≤ whole ∧ 1 ≤ whole ∧ whole < 2 ^ 250 ∧
  ∀ p H', H p = none → Same H H' → H' p = some (.tup (pairT (shareAns ks part whole))) → Q (.ref p) H'
def spHeld (C : Addr) : Sp := fun vs H Q _ => ∃ (r : Addr) (ks : List Kind) (part whole : Int), vs = [.ref r, .int part, .int whole] ∧ PurseAt C H r ks ∧ 0 ≤ part ∧ part ≤ whole ∧ 1 ≤ whole ∧ whole ≤ 10 ^ 75 ∧
  ∀ p H', H p = none → Same H H' → H' p = some (.tup (pairT (heldAns ks part whole))) → Q (.ref p) H'
theorem shFold_rest {w n : Int} (hw : 0 ≤ w) (hn : 0 ≤ n) {ks : List Kind} (h : ∀ k ∈ ks, 0 ≤ k.2) : 0 ≤ (shFold w n ks).2 ∧ (shFold w n ks).2 ≤ n := by
  revert h
  refine snoc_ind (P := fun ks => (∀ k ∈ ks, 0 ≤ k.2) → 0 ≤ (shFold w n ks).2 ∧ (shFold w n ks).2 ≤ n) (fun _ => ⟨hn, Int.le_refl _⟩) (fun l b ih h => ?_) ks
  obtain ⟨h1, h2⟩ := ih fun k hk => h k (List.mem_append_left _ hk)
  have hb := Int.mul_nonneg (h b (by simp)) hw
  rw [shFold_snoc]
  have m := mn_le (shFold w n l).2 (b.2 * w)
  have m0 := mn_nonneg h1 hb
  exact ⟨by show 0 ≤ _ - _; omega, by show _ - _ ≤ _; omega⟩
theorem walk_nonneg {w : Int} (hw : 0 ≤ w) : ∀ {ks : List Kind} {n : Int}, 0 ≤ n → (∀ k ∈ ks, 0 ≤ k.1 ∧ 0 ≤ k.2) → 0 ≤ walkS w ks n
  | [], n, _, _ => Int.le_refl _
  | k :: r, n, hn, h => by
    obtain ⟨h1, h2⟩ := h k List.mem_cons_self
    have hb := Int.mul_nonneg h2 hw
    have m := mn_le n (k.2 * w)
    have m0 := mn_nonneg hn hb
    have a := Int.mul_nonneg h1 m0
    have b := walk_nonneg hw (ks := r) (n := n - mn n (k.2 * w)) (by omega) fun x hx => h x (List.mem_cons_of_mem _ hx)
    show 0 ≤ _ + _
    omega
/-- person by person, each cut into so many parts -/
def partsOf (w : Nat) (L : List Int) : List Int := L.flatMap fun x => List.replicate w x
theorem parts_snoc (w : Nat) (L : List Int) (x : Int) : partsOf w (L ++ [x]) = partsOf w L ++ List.replicate w x := by simp [partsOf]
theorem parts_app (w : Nat) (L M : List Int) : partsOf w (L ++ M) = partsOf w L ++ partsOf w M := List.flatMap_append
theorem parts_rep (w n : Nat) (x : Int) : partsOf w (List.replicate n x) = List.replicate (n * w) x := by
  induction n with
  | zero => simp [partsOf]
  | succ n ih =>
    rw [List.replicate_succ', parts_snoc, ih, List.replicate_append_replicate, Nat.succ_mul]
theorem heap_cons (k : Kind) (r : List Kind) : heapOf (k :: r) = List.replicate k.2.toNat k.1 ++ heapOf r := by simp [heapOf]
theorem parts_walk (w : Nat) : ∀ (ks : List Kind) (n : Nat), (∀ k ∈ ks, 0 ≤ k.2) → ((partsOf w (heapOf ks)).take n).sum = walkS w ks n
  | [], n, _ => by simp [heapOf, partsOf, walkS]
  | k :: r, n, h => by
    have hk := h k List.mem_cons_self
    have ih := parts_walk w r (n - k.2.toNat * w) fun x hx => h x (List.mem_cons_of_mem _ hx)
    rw [heap_cons, parts_app, parts_rep, List.take_append, List.sum_append, List.length_replicate, ih, List.take_replicate, sum_rep]
    have e : k.2 * (w : Int) = ((k.2.toNat * w : Nat) : Int) := by
      rw [Int.natCast_mul]
      congr 1
      omega
    show _ = k.1 * mn n (k.2 * w) + walkS w r (n - mn n (k.2 * w))
    rw [e]
    generalize k.2.toNat * w = c
    have e2 : mn (n : Int) (c : Int) = ((min n c : Nat) : Int) := by unfold mn; split <;> omega
    have e3 : ((n - c : Nat) : Int) = (n : Int) - ((min n c : Nat) : Int) := by omega
    rw [e2, e3, Int.mul_comm]
end Ev
namespace Ev
open PySem PySem.Spec PyProof.Rows L2 TL
end Ev
namespace Ev
open PySem PySem.Spec PyProof.Rows L2 TL
theorem total_cons (k : Kind) (r : List Kind) : totalOf (k :: r) = k.1 * k.2 + totalOf r := by simp [totalOf]
theorem walk_le {w : Int} : ∀ {ks : List Kind} {n : Int}, (∀ k ∈ ks, 0 ≤ k.1) → walkS w ks n ≤ totalOf ks * w
  | [], n, _ => by simp [walkS, totalOf]
  | k :: r, n, h => by
    have h1 := h k List.mem_cons_self
    have m := (mn_le n (k.2 * w)).2
    have a := Int.mul_le_mul_of_nonneg_left m h1
    have b := walk_le (w := w) (ks := r) (n := n - mn n (k.2 * w)) fun x hx => h x (List.mem_cons_of_mem _ hx)
    have e : totalOf (k :: r) * w = k.1 * (k.2 * w) + totalOf r * w := by rw [total_cons, Int.add_mul, Int.mul_assoc]
    rw [e]
    show _ + _ ≤ _
    omega
end Ev

set_option Elab.async false
set_option linter.all false
set_option maxRecDepth 100000
set_option maxHeartbeats 4000000
namespace Ev
open PySem PySem.Spec PyProof.Rows L2 TL
/-! ### how the lowest shares grow -/
theorem mn_scale {n c m : Int} (h : 0 ≤ m) : mn (n * m) (c * m) = mn n c * m := by
  unfold mn
  by_cases z : c < n
  · rw [if_pos z]
    by_cases y : c * m < n * m
    · rw [if_pos y]
    · rw [if_neg y]
      have : c * m ≤ n * m := Int.mul_le_mul_of_nonneg_right (by omega) h
      omega
  · rw [if_neg z, if_neg]
    have : n * m ≤ c * m := Int.mul_le_mul_of_nonneg_right (by omega) h
    omega
theorem walk_scale {w m : Int} (h : 0 ≤ m) : ∀ (ks : List Kind) (n : Int), walkS (w * m) ks (n * m) = walkS w ks n * m
  | [], n => by simp [walkS]
  | k :: r, n => by
    have e : k.2 * (w * m) = k.2 * w * m := by rw [Int.mul_assoc]
    show k.1 * mn (n * m) (k.2 * (w * m)) + walkS (w * m) r (n * m - mn (n * m) (k.2 * (w * m))) = (k.1 * mn n (k.2 * w) + walkS w r (n - mn n (k.2 * w))) * m
    rw [e, mn_scale h, ← Int.sub_mul, walk_scale h r, Int.add_mul, Int.mul_assoc]
theorem people_cons (k : Kind) (r : List Kind) : peopleOf (k :: r) = k.2 + peopleOf r := by simp [peopleOf]
theorem people_nonneg {ks : List Kind} (h : ∀ k ∈ ks, 0 ≤ k.2) : 0 ≤ peopleOf ks := by
  induction ks with
  | nil => simp [peopleOf]
  | cons k r ih =>
    have := h k List.mem_cons_self
    have := ih fun x hx => h x (List.mem_cons_of_mem _ hx)
    rw [people_cons]
    omega
/-- all of it -/
theorem walk_all {w : Int} (hw : 0 ≤ w) : ∀ (ks : List Kind) {n : Int}, (∀ k ∈ ks, 0 ≤ k.2) → peopleOf ks * w ≤ n → walkS w ks n = totalOf ks * w
  | [], n, _, _ => by simp [walkS, totalOf]
  | k :: r, n, h, l => by
    have h2 := h k List.mem_cons_self
    have hr := fun x hx => h x (List.mem_cons_of_mem k hx)
    have pr := people_nonneg hr
    have a := Int.mul_nonneg h2 hw
    have b := Int.mul_nonneg pr hw
    rw [people_cons, Int.add_mul] at l
    have m : mn n (k.2 * w) = k.2 * w := by unfold mn; split <;> omega
    show k.1 * mn n (k.2 * w) + walkS w r (n - mn n (k.2 * w)) = _
    rw [m, walk_all hw r hr (by omega), total_cons, Int.add_mul, Int.mul_assoc]
theorem walk_zero {w : Int} (hw : 0 ≤ w) : ∀ (ks : List Kind), (∀ k ∈ ks, 0 ≤ k.2) → walkS w ks 0 = 0
  | [], _ => rfl
  | k :: r, h => by
    have h2 := Int.mul_nonneg (h k List.mem_cons_self) hw
    have m : mn 0 (k.2 * w) = 0 := by unfold mn; split <;> omega
    show k.1 * mn 0 (k.2 * w) + walkS w r (0 - mn 0 (k.2 * w)) = 0
    rw [m, Int.sub_zero, walk_zero hw r fun x hx => h x (List.mem_cons_of_mem _ hx)]
    simp
/-- what is beyond so many pieces is at least a each, where all amounts are -/
theorem walk_beyond {w a : Int} (hw : 0 ≤ w) : ∀ (ks : List Kind) {n : Int}, (∀ k ∈ ks, a ≤ k.1 ∧ 0 ≤ k.2) → 0 ≤ n → n ≤ peopleOf ks * w → a * (peopleOf ks * w - n) ≤ totalOf ks * w - walkS w ks n
  | [], n, _, h0, h1 => by
    have : n = 0 := by
      have e : peopleOf [] * w = 0 := by simp [peopleOf]
      omega
    subst this
    simp [peopleOf, totalOf, walkS]
  | k :: r, n, h, h0, h1 => by
    obtain ⟨ha, h2⟩ := h k List.mem_cons_self
    have hr := fun x hx => h x (List.mem_cons_of_mem k hx)
    have c0 := Int.mul_nonneg h2 hw
    have m := mn_le n (k.2 * w)
    have m0 := mn_nonneg h0 c0
    rw [people_cons, Int.add_mul] at h1
    have ih := walk_beyond hw r (n := n - mn n (k.2 * w)) hr (by omega) (by
      by_cases z : k.2 * w < n
      · have : mn n (k.2 * w) = k.2 * w := by unfold mn; rw [if_pos z]
        omega
      · have : mn n (k.2 * w) = n := by unfold mn; rw [if_neg z]
        have := Int.mul_nonneg (people_nonneg fun x hx => (hr x hx).2) hw
        omega)
    have d : a * (k.2 * w - mn n (k.2 * w)) ≤ k.1 * (k.2 * w - mn n (k.2 * w)) := Int.mul_le_mul_of_nonneg_right ha (by omega)
    have e1 : a * (peopleOf (k :: r) * w - n) = a * (k.2 * w - mn n (k.2 * w)) + a * (peopleOf r * w - (n - mn n (k.2 * w))) := by
      rw [← Int.mul_add, people_cons, Int.add_mul]
      congr 1
      omega
    have e2 : totalOf (k :: r) * w - walkS w (k :: r) n = k.1 * (k.2 * w - mn n (k.2 * w)) + (totalOf r * w - walkS w r (n - mn n (k.2 * w))) := by
      rw [total_cons, Int.add_mul, Int.mul_assoc, Int.mul_sub]
      show k.1 * (k.2 * w) + totalOf r * w - (k.1 * mn n (k.2 * w) + walkS w r (n - mn n (k.2 * w))) = _
      omega
    rw [e1, e2]
    omega
/-- the lowest ones hold no more than their part -/
theorem walk_part {w : Int} (hw : 0 ≤ w) : ∀ (ks : List Kind) {n : Int}, (∀ k ∈ ks, 0 ≤ k.1 ∧ 0 ≤ k.2) → (ks.map Prod.fst).Pairwise (· < ·) → 0 ≤ n → n ≤ peopleOf ks * w → walkS w ks n * peopleOf ks ≤ n * totalOf ks
  | [], n, _, _, _, _ => by simp [walkS, peopleOf, totalOf]
  | k :: r, n, h, pw, h0, h1 => by
    obtain ⟨ha, h2⟩ := h k List.mem_cons_self
    have hr := fun x hx => h x (List.mem_cons_of_mem k hx)
    rw [List.map_cons, List.pairwise_cons] at pw
    have above : ∀ x ∈ r, k.1 ≤ x.1 ∧ 0 ≤ x.2 := fun x hx => ⟨Int.le_of_lt (pw.1 x.1 (List.mem_map_of_mem hx)), (hr x hx).2⟩
    have pr := people_nonneg fun x hx => (hr x hx).2
    have c0 := Int.mul_nonneg h2 hw
    have tr : k.1 * peopleOf r ≤ totalOf r := by
      clear h h1 hr pr pw
      induction r with
      | nil => simp [peopleOf, totalOf]
      | cons x r ih =>
        have h3 := above x List.mem_cons_self
        have h4 := ih fun y hy => above y (List.mem_cons_of_mem _ hy)
        have h5 := Int.mul_le_mul_of_nonneg_right h3.1 h3.2
        rw [people_cons, total_cons, Int.mul_add]
        omega
    rw [people_cons, Int.add_mul] at h1
    show (k.1 * mn n (k.2 * w) + walkS w r (n - mn n (k.2 * w))) * peopleOf (k :: r) ≤ n * totalOf (k :: r)
    rw [people_cons, total_cons]
    by_cases z : k.2 * w < n
    · have m : mn n (k.2 * w) = k.2 * w := by unfold mn; rw [if_pos z]
      have ih := walk_part hw r (n := n - k.2 * w) hr pw.2 (by omega) (by omega)
      have bey := walk_beyond hw r (n := n - k.2 * w) above (by omega) (by omega)
      rw [m]
      generalize walkS w r (n - k.2 * w) = W at *
      generalize peopleOf r = Cr at *
      generalize totalOf r = Ar at *
      have e0 : n = k.2 * w + (n - k.2 * w) := by omega
      generalize n - k.2 * w = n' at *
      rw [e0]
      -- (a c w + W) (c + C) ≤ (c w + n') (a c + A)
      have l : (k.1 * (k.2 * w) + W) * (k.2 + Cr) = k.1 * (k.2 * w) * k.2 + k.1 * (k.2 * w) * Cr + W * k.2 + W * Cr := by
        rw [Int.add_mul, Int.mul_add, Int.mul_add]; omega
      have rr : (k.2 * w + n') * (k.1 * k.2 + Ar) = k.2 * w * (k.1 * k.2) + k.2 * w * Ar + n' * (k.1 * k.2) + n' * Ar := by
        rw [Int.add_mul, Int.mul_add, Int.mul_add]; omega
      have e1 : k.1 * (k.2 * w) * k.2 = k.2 * w * (k.1 * k.2) := by rw [Int.mul_comm k.1 (k.2 * w), Int.mul_assoc]
      have b2 := Int.mul_le_mul_of_nonneg_right bey h2
      have e2 : k.1 * (Cr * w - n') * k.2 = k.1 * (k.2 * w) * Cr - n' * (k.1 * k.2) := by grind
      have e3 : (Ar * w - W) * k.2 = k.2 * w * Ar - W * k.2 := by
        rw [Int.sub_mul]
        congr 1
        rw [Int.mul_assoc, Int.mul_comm w k.2, Int.mul_comm]
      rw [l, rr, e1]
      rw [e2, e3] at b2
      omega
    · have m : mn n (k.2 * w) = n := by unfold mn; rw [if_neg z]
      rw [m, Int.sub_self, walk_zero hw r fun x hx => (hr x hx).2]
      have x1 : (k.1 * n + 0) * (k.2 + peopleOf r) = n * (k.1 * k.2) + n * (k.1 * peopleOf r) := by
        rw [Int.add_zero, Int.mul_add, Int.mul_comm k.1 n, Int.mul_assoc, Int.mul_assoc]
      have x2 := Int.mul_le_mul_of_nonneg_left tr h0
      rw [x1, Int.mul_add]
      omega
theorem GoodK.both {ks : List Kind} (g : GoodK ks) : ∀ k ∈ ks, 0 ≤ k.1 ∧ 0 ≤ k.2 := fun k hk => ⟨g.low k hk, g.cnt0 k hk⟩
end Ev
namespace Ev
open PySem PySem.Spec PyProof.Rows L2 TL
/-! ### promises of a law's own share -/
def spSums : Sp := fun vs H Q _ => ∃ (t : Addr) (ks : List Kind), vs = [.ref t] ∧ KindsAt H t ks ∧ GoodK ks ∧ ∀ p H', H p = none → Same H H' → H' p = some (.tup (pairT (peopleOf ks, totalOf ks))) → Q (.ref p) H'
def spFraction : Sp := fun vs H Q _ => ∃ (a t : Addr) (ks : List Kind) (n : Nat), vs = [.ref a, .ref t] ∧ Vt n H a ∧ n ≤ 700000000 ∧ KindsAt H t ks ∧ GoodK ks ∧
  ∀ (p : Addr) (part whole : Int) (H' : Hp), H p = none → Fx a H H' → H' p = some (.tup (pairT (part, whole))) → 0 ≤ part → part ≤ whole → 1 ≤ whole → whole ≤ 10 ^ 75 → Vt (n + 300) H' a → Q (.ref p) H'
/-- a fraction seen, with its share -/
structure Sn where
  l : Addr
  d : Addr
  at_ : Int
  of_ : Int
structure SnAt (ks : List Kind) (H : Hp) (e : Sn) : Prop where
  l : H e.l = some (.tup [.int e.at_, .int e.of_, .ref e.d])
  d : H e.d = some (.tup (pairT (heldAns ks e.at_ e.of_)))
  p0 : 0 ≤ e.at_
  p1 : e.at_ ≤ e.of_
  w1 : 1 ≤ e.of_
  wb : e.of_ ≤ 10 ^ 75
theorem SnAt.same {ks : List Kind} {H H' : Hp} {e : Sn} (h : SnAt ks H e) (s : Same H H') : SnAt ks H' e := ⟨s _ _ h.l, s _ _ h.d, h.p0, h.p1, h.w1, h.wb⟩
theorem SnAt.fx {ks : List Kind} {H H' : Hp} {e : Sn} {a : Addr} {n : Nat} (h : SnAt ks H e) (v : Vt n H a) (f : Fx a H H') : SnAt ks H' e := ⟨f _ _ (v.neT h.l) h.l, f _ _ (v.neT h.d) h.d, h.p0, h.p1, h.w1, h.wb⟩
theorem SnAt.put {ks : List Kind} {H : Hp} {e : Sn} {p : Addr} {o : HO} {xs : List V} (h : SnAt ks H e) (hp : H p = some (.lst xs)) : SnAt ks (upd H p o) e :=
  ⟨by rw [upd_ne (ne_of h.l hp (by intro z; cases z))]; exact h.l, by rw [upd_ne (ne_of h.d hp (by intro z; cases z))]; exact h.d, h.p0, h.p1, h.w1, h.wb⟩
end Ev

set_option Elab.async false
set_option linter.all false
set_option maxRecDepth 100000
set_option maxHeartbeats 4000000
namespace Ev
open PySem PySem.Spec PyProof.Rows L2 TL
/-! ### one purse at least as even as another one -/
/-- amounts that don't fall, counts from 1 on, not all nothing -/
structure Hill (ks : List Kind) : Prop where
  up : ks.Pairwise fun a b => a.1 ≤ b.1
  low : ∀ k ∈ ks, 0 ≤ k.1
  cnt : ∀ k ∈ ks, 0 ≤ k.2
theorem Hill.tail {k : Kind} {r : List Kind} (h : Hill (k :: r)) : Hill r := ⟨(List.pairwise_cons.mp h.up).2, fun x hx => h.low x (List.mem_cons_of_mem _ hx), fun x hx => h.cnt x (List.mem_cons_of_mem _ hx)⟩
/-- what so many pieces hold at least, where all amounts are a or more -/
theorem walk_least {w a : Int} (hw : 0 ≤ w) : ∀ (ks : List Kind) {n : Int}, (∀ k ∈ ks, a ≤ k.1 ∧ 0 ≤ k.2) → 0 ≤ n → n ≤ peopleOf ks * w → a * n ≤ walkS w ks n
  | [], n, _, h0, h1 => by
    have : n = 0 := by
      have e : peopleOf [] * w = 0 := by simp [peopleOf]
      omega
    subst this
    simp [walkS]
  | k :: r, n, h, h0, h1 => by
    obtain ⟨ha, h2⟩ := h k List.mem_cons_self
    have hr := fun x hx => h x (List.mem_cons_of_mem k hx)
    have c0 := Int.mul_nonneg h2 hw
    have m := mn_le n (k.2 * w)
    have m0 := mn_nonneg h0 c0
    rw [people_cons, Int.add_mul] at h1
    have pr := Int.mul_nonneg (people_nonneg fun x hx => (hr x hx).2) hw
    have ih := walk_least hw r (n := n - mn n (k.2 * w)) hr (by omega) (by
      by_cases z : k.2 * w < n
      · have : mn n (k.2 * w) = k.2 * w := by unfold mn; rw [if_pos z]
        omega
      · have : mn n (k.2 * w) = n := by unfold mn; rw [if_neg z]
        omega)
    have d : a * mn n (k.2 * w) ≤ k.1 * mn n (k.2 * w) := Int.mul_le_mul_of_nonneg_right ha m0
    show a * n ≤ k.1 * mn n (k.2 * w) + walkS w r (n - mn n (k.2 * w))
    have e : a * n = a * mn n (k.2 * w) + a * (n - mn n (k.2 * w)) := by rw [← Int.mul_add]; congr 1; omega
    omega
/-- a line below the curve, touching it at n -/
theorem walk_below {w : Int} (hw : 0 ≤ w) : ∀ (ks : List Kind) {n a : Int}, Hill ks → (∀ k ∈ ks, a ≤ k.1) → 0 ≤ n → n ≤ peopleOf ks * w →
    ∃ s : Int, a ≤ s ∧ ∀ m, 0 ≤ m → m ≤ peopleOf ks * w → walkS w ks n + s * (m - n) ≤ walkS w ks m
  | [], n, a, _, _, h0, h1 => by
    have e : peopleOf [] * w = 0 := by simp [peopleOf]
    refine ⟨a, Int.le_refl _, fun m m0 m1 => ?_⟩
    have : n = 0 := by omega
    have : m = 0 := by omega
    subst_vars
    simp [walkS]
  | k :: r, n, a, h, ha, h0, h1 => by
    have h2 := h.cnt k List.mem_cons_self
    have c0 := Int.mul_nonneg h2 hw
    have up := (List.pairwise_cons.mp h.up).1
    have lo : ∀ x ∈ r, k.1 ≤ x.1 ∧ 0 ≤ x.2 := fun x hx => ⟨up x hx, h.cnt x (List.mem_cons_of_mem _ hx)⟩
    have pr := Int.mul_nonneg (people_nonneg fun x hx => (lo x hx).2) hw
    rw [people_cons, Int.add_mul] at h1 ⊢
    have ak := ha k List.mem_cons_self
    have val : ∀ m, walkS w (k :: r) m = k.1 * mn m (k.2 * w) + walkS w r (m - mn m (k.2 * w)) := fun _ => rfl
    have hi : ∀ m, k.2 * w < m → mn m (k.2 * w) = k.2 * w := fun m z => by unfold mn; rw [if_pos z]
    have lw : ∀ m, ¬ k.2 * w < m → mn m (k.2 * w) = m := fun m z => by unfold mn; rw [if_neg z]
    have wz : walkS w r 0 = 0 := walk_zero hw r fun x hx => (lo x hx).2
    by_cases z : k.2 * w < n
    · obtain ⟨s, s1, s2⟩ := walk_below hw r (n := n - k.2 * w) (a := k.1) h.tail (fun x hx => (lo x hx).1) (by omega) (by omega)
      refine ⟨s, by omega, fun m m0 m1 => ?_⟩
      rw [val n, hi n z, val m]
      by_cases y : k.2 * w < m
      · rw [hi m y]
        have := s2 (m - k.2 * w) (by omega) (by omega)
        have e : m - k.2 * w - (n - k.2 * w) = m - n := by omega
        rw [e] at this
        omega
      · rw [lw m y, Int.sub_self, wz]
        have t := s2 0 (Int.le_refl _) (by omega)
        rw [wz] at t
        have u : k.1 * (k.2 * w - m) ≤ s * (k.2 * w - m) := Int.mul_le_mul_of_nonneg_right s1 (by omega)
        generalize walkS w r (n - k.2 * w) = W at *
        generalize k.2 * w = c at *
        have e1 : s * (m - n) = s * (0 - (n - c)) - s * (c - m) := by rw [← Int.mul_sub]; congr 1; omega
        have e2 : k.1 * c = k.1 * (c - m) + k.1 * m := by rw [← Int.mul_add]; congr 1; omega
        omega
    · refine ⟨k.1, ak, fun m m0 m1 => ?_⟩
      rw [val n, lw n z, Int.sub_self, wz, val m]
      by_cases y : k.2 * w < m
      · rw [hi m y]
        have l := walk_least hw r (n := m - k.2 * w) lo (by omega) (by omega)
        generalize walkS w r (m - k.2 * w) = W at *
        generalize k.2 * w = c at *
        have e1 : k.1 * n + k.1 * (m - n) = k.1 * c + k.1 * (m - c) := by rw [← Int.mul_add, ← Int.mul_add]; congr 1; omega
        omega
      · rw [lw m y, Int.sub_self, wz]
        have e1 : k.1 * n + k.1 * (m - n) = k.1 * m := by rw [← Int.mul_add]; congr 1; omega
        omega
/-- between two points the curve is not above the line -/
theorem walk_convex {w : Int} (hw : 0 ≤ w) {ks : List Kind} (h : Hill ks) {a n b : Int} (a0 : 0 ≤ a) (an : a ≤ n) (nb : n ≤ b) (hb : b ≤ peopleOf ks * w) :
    walkS w ks n * (b - a) ≤ walkS w ks a * (b - n) + walkS w ks b * (n - a) := by
  obtain ⟨s, _, hs⟩ := walk_below hw ks (n := n) (a := 0) h h.low (by omega) (by omega)
  have x := Int.mul_le_mul_of_nonneg_right (hs a a0 (by omega)) (by omega : 0 ≤ b - n)
  have y := Int.mul_le_mul_of_nonneg_right (hs b (by omega) hb) (by omega : 0 ≤ n - a)
  generalize walkS w ks n = N at *
  generalize walkS w ks a = A at *
  generalize walkS w ks b = B at *
  have e : N * (b - a) = (N + s * (a - n)) * (b - n) + (N + s * (b - n)) * (n - a) := by grind
  omega
/-- where a piece lies, and the line there -/
theorem walk_line {w : Int} (hw : 0 ≤ w) : ∀ (ks : List Kind) {n : Int}, ks ≠ [] → (∀ k ∈ ks, 0 ≤ k.2) → 0 ≤ n → n ≤ peopleOf ks * w →
    ∃ i, i < ks.length ∧ peopleOf (ks.take i) * w ≤ n ∧ n ≤ peopleOf (ks.take (i + 1)) * w ∧ ∃ s : Int, ∀ m, peopleOf (ks.take i) * w ≤ m → m ≤ peopleOf (ks.take (i + 1)) * w → walkS w ks m = walkS w ks (peopleOf (ks.take i) * w) + s * (m - peopleOf (ks.take i) * w)
  | [], n, ne, _, _, _ => absurd rfl ne
  | k :: r, n, _, h, h0, h1 => by
    have h2 := h k List.mem_cons_self
    have c0 := Int.mul_nonneg h2 hw
    have hr := fun x hx => h x (List.mem_cons_of_mem k hx)
    have hi : ∀ m, k.2 * w < m → mn m (k.2 * w) = k.2 * w := fun m z => by unfold mn; rw [if_pos z]
    have lw : ∀ m, ¬ k.2 * w < m → mn m (k.2 * w) = m := fun m z => by unfold mn; rw [if_neg z]
    have val : ∀ m, walkS w (k :: r) m = k.1 * mn m (k.2 * w) + walkS w r (m - mn m (k.2 * w)) := fun _ => rfl
    have wz : walkS w r 0 = 0 := walk_zero hw r hr
    have p1 : peopleOf ((k :: r).take 1) = k.2 := by simp [peopleOf]
    have p0 : peopleOf ((k :: r).take 0) = 0 := by simp [peopleOf]
    by_cases z : n ≤ k.2 * w
    · refine ⟨0, Nat.succ_pos _, by rw [p0]; omega, by rw [p1]; exact z, k.1, fun m m0 m1 => ?_⟩
      rw [p1] at m1
      rw [p0, Int.zero_mul] at m0 ⊢
      rw [val m, lw m (by omega), Int.sub_self, wz, val 0, lw 0 (by omega), Int.sub_self, wz]
      simp
    · have rn : r ≠ [] := fun e => by
        subst e
        rw [people_cons, Int.add_mul] at h1
        have : peopleOf [] * w = 0 := by simp [peopleOf]
        omega
      rw [people_cons, Int.add_mul] at h1
      obtain ⟨i, il, i1, i2, s, hs⟩ := walk_line hw r (n := n - k.2 * w) rn hr (by omega) (by omega)
      have pt : ∀ j, peopleOf ((k :: r).take (j + 1)) * w = k.2 * w + peopleOf (r.take j) * w := fun j => by rw [List.take_succ_cons, people_cons, Int.add_mul]
      have q0 : 0 ≤ peopleOf (r.take i) * w := Int.mul_nonneg (people_nonneg fun x hx => hr x (List.mem_of_mem_take hx)) hw
      refine ⟨i + 1, by rw [List.length_cons]; omega, by rw [pt]; omega, by rw [pt]; omega, s, fun m m0 m1 => ?_⟩
      rw [pt] at m0 m1 ⊢
      have v2 : ∀ x, 0 ≤ x → walkS w (k :: r) (k.2 * w + x) = k.1 * (k.2 * w) + walkS w r x := fun x x0 => by
        rw [val]
        by_cases y : k.2 * w < k.2 * w + x
        · rw [hi _ y]
          congr 2
          omega
        · have : x = 0 := by omega
          subst this
          rw [Int.add_zero, lw _ (by omega), Int.sub_self]
      have em : m = k.2 * w + (m - k.2 * w) := by omega
      rw [em, v2 _ (by omega), v2 _ q0, hs (m - k.2 * w) (by omega) (by omega)]
      rw [show k.2 * w + (m - k.2 * w) - (k.2 * w + peopleOf (r.take i) * w) = m - k.2 * w - peopleOf (r.take i) * w by omega]
      omega
/-- the purse to look at: of nothing each one holds one -/
def normK (ks : List Kind) : List Kind := if totalOf ks = 0 then ks.map fun k => (1, k.2) else ks
theorem norm_people (ks : List Kind) : peopleOf (normK ks) = peopleOf ks := by
  unfold normK
  split
  · unfold peopleOf
    rw [List.map_map]
    rfl
  · rfl
theorem norm_take (ks : List Kind) (i : Nat) : peopleOf ((normK ks).take i) = peopleOf (ks.take i) := by
  unfold normK
  split
  · rw [← List.map_take]
    unfold peopleOf
    rw [List.map_map]
    rfl
  · rfl
theorem norm_len (ks : List Kind) : (normK ks).length = ks.length := by
  unfold normK
  split
  · rw [List.length_map]
  · rfl
theorem GoodK.hill {ks : List Kind} (g : GoodK ks) : Hill ks := ⟨by
  have p := g.pair
  rw [List.pairwise_map] at p
  exact p.imp fun h => Int.le_of_lt h, g.low, g.cnt0⟩
theorem norm_hill {ks : List Kind} (g : GoodK ks) : Hill (normK ks) := by
  unfold normK
  split
  · refine ⟨?_, fun k hk => ?_, fun k hk => ?_⟩
    · rw [List.pairwise_map]
      exact g.hill.up.imp fun _ => Int.le_refl _
    · obtain ⟨x, _, rfl⟩ := List.mem_map.mp hk
      show (0:Int) ≤ 1
      decide
    · obtain ⟨x, hx, rfl⟩ := List.mem_map.mp hk
      exact g.cnt0 x hx
  · exact g.hill
theorem ones_walk {w : Int} (hw : 0 ≤ w) : ∀ (ks : List Kind) {n : Int}, (∀ k ∈ ks, 0 ≤ k.2) → 0 ≤ n → n ≤ peopleOf ks * w → walkS w (ks.map fun k => (1, k.2)) n = n
  | [], n, _, h0, h1 => by
    have e : peopleOf [] * w = 0 := by simp [peopleOf]
    show 0 = n
    omega
  | k :: r, n, h, h0, h1 => by
    have h2 := Int.mul_nonneg (h k List.mem_cons_self) hw
    rw [people_cons, Int.add_mul] at h1
    have pr := Int.mul_nonneg (people_nonneg fun x hx => h x (List.mem_cons_of_mem _ hx)) hw
    show 1 * mn n (k.2 * w) + walkS w (r.map fun k => (1, k.2)) (n - mn n (k.2 * w)) = n
    rw [ones_walk hw r (fun x hx => h x (List.mem_cons_of_mem _ hx)) (by unfold mn; split <;> omega) (by unfold mn; split <;> omega)]
    omega
theorem ones_total (ks : List Kind) : totalOf (ks.map fun k => (1, k.2)) = peopleOf ks := by
  unfold totalOf peopleOf
  rw [List.map_map]
  congr 1
  refine List.map_congr_left fun k _ => ?_
  show 1 * k.2 = k.2
  omega
theorem norm_total {ks : List Kind} (g : GoodK ks) : 0 < totalOf (normK ks) := by
  have := g.people_pos
  have := g.total_le
  unfold normK
  split
  · rw [ones_total]
    omega
  · omega
/-- the lowest share for p of w, w being a multiple of the people -/
theorem share_norm {ks : List Kind} (g : GoodK ks) {p w : Int} (p0 : 0 ≤ p) (pw : p ≤ w) (w1 : 1 ≤ w) :
    0 < (shareAns ks p w).2 ∧ (shareAns ks p w).1 * (totalOf (normK ks) * w) = walkS w (normK ks) (p * peopleOf ks) * (shareAns ks p w).2 := by
  have gp := g.people_pos
  have gt := g.total_le
  unfold shareAns normK
  split
  · refine ⟨by show 0 < w; omega, ?_⟩
    rw [ones_total, ones_walk (by omega) ks g.cnt0 (Int.mul_nonneg p0 (by omega)) (by rw [Int.mul_comm]; exact Int.mul_le_mul_of_nonneg_left pw (by omega))]
    show p * (peopleOf ks * w) = p * peopleOf ks * w
    rw [Int.mul_assoc]
  · exact ⟨Int.mul_pos (by omega) (by omega), rfl⟩
/-- fractions of positive denominators -/
theorem frac_le {a b c d a' b' c' d' : Int} (hb : 0 < b) (hd : 0 < d) (hb' : 0 < b') (hd' : 0 < d') (e : a * b' = a' * b) (e' : c * d' = c' * d) : a * d ≤ c * b ↔ a' * d' ≤ c' * b' := by
  have k1 : ∀ {a b c d a' b' c' d' : Int}, 0 < b → 0 < d → 0 < b' → 0 < d' → a * b' = a' * b → c * d' = c' * d → a * d ≤ c * b → a' * d' ≤ c' * b' := by
    intro a b c d a' b' c' d' hb hd hb' hd' e e' h
    refine Int.le_of_mul_le_mul_right (a := b * d) ?_ (Int.mul_pos hb hd)
    have m := Int.mul_le_mul_of_nonneg_right h (Int.le_of_lt (Int.mul_pos hb' hd'))
    have x : a' * d' * (b * d) = a * d * (b' * d') := by grind
    have y : c' * b' * (b * d) = c * b * (b' * d') := by grind
    omega
  exact ⟨k1 hb hd hb' hd' e e', k1 hb' hd' hb hd e.symm e'.symm⟩
/-- for each fraction the first one's lowest share is at least as great -/
def Dom (ks os : List Kind) : Prop := ∀ p w : Int, 0 ≤ p → p ≤ w → 1 ≤ w → (shareAns os p w).1 * (shareAns ks p w).2 ≤ (shareAns ks p w).1 * (shareAns os p w).2
/-- no crossing at p of w -/
def NoX (ks os : List Kind) (p w : Int) : Prop := (shareAns os p w).1 * (shareAns ks p w).2 ≤ (shareAns ks p w).1 * (shareAns os p w).2
instance (ks os : List Kind) (p w : Int) : Decidable (NoX ks os p w) := by unfold NoX; exact inferInstance
theorem nox_norm {ks os : List Kind} (g : GoodK ks) (g' : GoodK os) {p w : Int} (p0 : 0 ≤ p) (pw : p ≤ w) (w1 : 1 ≤ w) :
    NoX ks os p w ↔ walkS w (normK os) (p * peopleOf os) * totalOf (normK ks) ≤ walkS w (normK ks) (p * peopleOf ks) * totalOf (normK os) := by
  have a := share_norm g p0 pw w1
  have b := share_norm g' p0 pw w1
  have t := norm_total g
  have t' := norm_total g'
  unfold NoX
  rw [frac_le b.1 a.1 (Int.mul_pos t' (by omega)) (Int.mul_pos t (by omega)) b.2 a.2]
  rw [← Int.mul_assoc, ← Int.mul_assoc]
  constructor
  · exact fun h => Int.le_of_mul_le_mul_right h (by omega)
  · exact fun h => Int.mul_le_mul_of_nonneg_right h (by omega)
/-- the same fraction in other numbers -/
theorem nox_same {ks os : List Kind} (g : GoodK ks) (g' : GoodK os) {p w q v : Int} (p0 : 0 ≤ p) (pw : p ≤ w) (w1 : 1 ≤ w) (q0 : 0 ≤ q) (qv : q ≤ v) (v1 : 1 ≤ v) (e : p * v = q * w) : NoX ks os p w ↔ NoX ks os q v := by
  rw [nox_norm g g' p0 pw w1, nox_norm g g' q0 qv v1]
  have s1 := fun (xs : List Kind) (n : Int) => walk_scale (w := w) (m := v) (by omega) xs n
  have s2 := fun (xs : List Kind) (n : Int) => walk_scale (w := v) (m := w) (by omega) xs n
  have a : ∀ xs : List Kind, ∀ P : Int, walkS w xs (p * P) * v = walkS v xs (q * P) * w := fun xs P => by
    rw [← s1, ← s2, Int.mul_comm v w]
    congr 1
    grind
  have b1 := a (normK ks) (peopleOf ks)
  have b2 := a (normK os) (peopleOf os)
  generalize walkS w (normK ks) (p * peopleOf ks) = A at *
  generalize walkS w (normK os) (p * peopleOf os) = B at *
  generalize walkS v (normK ks) (q * peopleOf ks) = A' at *
  generalize walkS v (normK os) (q * peopleOf os) = B' at *
  have k1 : ∀ {A B A' B' v w T T' : Int}, 0 < v → 0 < w → A * v = A' * w → B * v = B' * w → B * T ≤ A * T' → B' * T ≤ A' * T' := by
    intro A B A' B' v w T T' v0 w0 e1 e2 h
    refine Int.le_of_mul_le_mul_right (a := w) ?_ w0
    have m := Int.mul_le_mul_of_nonneg_right h (Int.le_of_lt v0)
    have x : B' * T * w = B * T * v := by grind
    have y : A' * T' * w = A * T' * v := by grind
    omega
  exact ⟨k1 (by omega) (by omega) b1 b2, k1 (by omega) (by omega) b1.symm b2.symm⟩
theorem GoodK.take_le {ks : List Kind} (g : GoodK ks) (i : Nat) : peopleOf (ks.take i) ≤ peopleOf ks := by
  have a := people_app (ks.take i) (ks.drop i)
  rw [List.take_append_drop] at a
  have h : ∀ x ∈ ks.drop i, 0 ≤ x.2 := fun x hx => g.cnt0 x (List.mem_of_mem_drop hx)
  have := people_nonneg h
  omega
/-- it is enough to look at the ends of the first one's kinds -/
theorem dom_ends {ks os : List Kind} (g : GoodK ks) (g' : GoodK os) (h : ∀ i, i < ks.length → NoX ks os (peopleOf (ks.take (i + 1))) (peopleOf ks)) : Dom ks os := by
  intro p w p0 pw w1
  show NoX ks os p w
  have gp := g.people_pos
  have gp' := g'.people_pos
  have W1 : 1 ≤ w * peopleOf ks := by
    have := Int.mul_le_mul_of_nonneg_left gp (by omega : 0 ≤ w)
    omega
  have pP : 0 ≤ p * peopleOf ks := Int.mul_nonneg p0 (by omega)
  have pW : p * peopleOf ks ≤ w * peopleOf ks := Int.mul_le_mul_of_nonneg_right pw (by omega)
  rw [nox_same g g' p0 pw w1 pP pW W1 (by grind), nox_norm g g' pP pW W1]
  have H := norm_hill g
  have H' := norm_hill g'
  have T := norm_total g
  have T' := norm_total g'
  -- at each end
  have ends : ∀ i, i ≤ ks.length → walkS (w * peopleOf ks) (normK os) (peopleOf (ks.take i) * w * peopleOf os) * totalOf (normK ks) ≤ walkS (w * peopleOf ks) (normK ks) (peopleOf (ks.take i) * w * peopleOf ks) * totalOf (normK os) := fun i hi => by
    cases i with
    | zero =>
      have z : peopleOf (ks.take 0) = 0 := by simp [peopleOf]
      rw [z, Int.zero_mul, Int.zero_mul, Int.zero_mul, walk_zero (by omega) _ H.cnt, walk_zero (by omega) _ H'.cnt]
      omega
    | succ i =>
      have e0 : 0 ≤ peopleOf (ks.take (i + 1)) := (g.take_people _).1
      have e1 := g.take_le (i + 1)
      have x := h i (by omega)
      rw [nox_same g g' e0 e1 (by omega) (q := peopleOf (ks.take (i + 1)) * w) (v := w * peopleOf ks) (Int.mul_nonneg e0 (by omega)) (by rw [Int.mul_comm w]; exact Int.mul_le_mul_of_nonneg_right e1 (by omega)) W1 (by grind)] at x
      rw [nox_norm g g' (Int.mul_nonneg e0 (by omega)) (by rw [Int.mul_comm w]; exact Int.mul_le_mul_of_nonneg_right e1 (by omega)) W1] at x
      exact x
  have nw : p * peopleOf ks * peopleOf ks ≤ peopleOf (normK ks) * (w * peopleOf ks) := by
    rw [norm_people, Int.mul_comm (peopleOf ks) (w * peopleOf ks)]
    exact Int.mul_le_mul_of_nonneg_right pW (by omega)
  have ne : normK ks ≠ [] := fun z => by
    have := norm_len ks
    rw [z] at this
    exact g.ne (List.eq_nil_of_length_eq_zero this.symm)
  obtain ⟨i, il, i1, i2, s, hs⟩ := walk_line (w := w * peopleOf ks) (by omega) (normK ks) (n := p * peopleOf ks * peopleOf ks) ne H.cnt (Int.mul_nonneg pP (by omega)) nw
  rw [norm_len] at il
  rw [norm_take, norm_take] at *
  have u := ends i (by omega)
  have v := ends (i + 1) (by omega)
  -- in units of x
  have c1 : ∀ j, peopleOf (ks.take j) * (w * peopleOf ks) = peopleOf (ks.take j) * w * peopleOf ks := fun j => by rw [Int.mul_assoc]
  simp only [c1] at i1 i2 hs
  have j1 : peopleOf (ks.take i) * w ≤ p * peopleOf ks := Int.le_of_mul_le_mul_right i1 (by omega)
  have j2 : p * peopleOf ks ≤ peopleOf (ks.take (i + 1)) * w := Int.le_of_mul_le_mul_right i2 (by omega)
  have l1 := hs _ i1 i2
  have l2 := hs (peopleOf (ks.take (i + 1)) * w * peopleOf ks) (by omega) (Int.le_refl _)
  have a0 : 0 ≤ peopleOf (ks.take i) * w * peopleOf os := Int.mul_nonneg (Int.mul_nonneg (g.take_people _).1 (by omega)) (by omega)
  have tp := g.take_le (i + 1)
  have bb : peopleOf (ks.take (i + 1)) * w * peopleOf os ≤ peopleOf (normK os) * (w * peopleOf ks) := by
    rw [norm_people]
    have := Int.mul_le_mul_of_nonneg_right tp (by omega : 0 ≤ w)
    have := Int.mul_le_mul_of_nonneg_right this (by omega : 0 ≤ peopleOf os)
    have e : peopleOf os * (w * peopleOf ks) = peopleOf ks * w * peopleOf os := by grind
    omega
  have cv := walk_convex (w := w * peopleOf ks) (by omega) H' a0 (Int.mul_le_mul_of_nonneg_right j1 (by omega : 0 ≤ peopleOf os)) (Int.mul_le_mul_of_nonneg_right j2 (by omega : 0 ≤ peopleOf os)) bb
  generalize peopleOf (ks.take i) * w = A at *
  generalize peopleOf (ks.take (i + 1)) * w = B at *
  generalize p * peopleOf ks = X at *
  generalize walkS (w * peopleOf ks) (normK ks) (X * peopleOf ks) = FX at *
  generalize walkS (w * peopleOf ks) (normK ks) (A * peopleOf ks) = FA at *
  generalize walkS (w * peopleOf ks) (normK ks) (B * peopleOf ks) = FB at *
  generalize hGX : walkS (w * peopleOf ks) (normK os) (X * peopleOf os) = GX at *
  generalize hGA : walkS (w * peopleOf ks) (normK os) (A * peopleOf os) = GA at *
  generalize hGB : walkS (w * peopleOf ks) (normK os) (B * peopleOf os) = GB at *
  generalize totalOf (normK ks) = T1 at *
  generalize totalOf (normK os) = T2 at *
  generalize peopleOf ks = P1 at *
  generalize peopleOf os = P2 at *
  have cv2 : GX * (B - A) ≤ GA * (B - X) + GB * (X - A) := by
    refine Int.le_of_mul_le_mul_right (a := P2) ?_ (by omega)
    have x1 : GX * (B - A) * P2 = GX * (B * P2 - A * P2) := by grind
    have x2 : (GA * (B - X) + GB * (X - A)) * P2 = GA * (B * P2 - X * P2) + GB * (X * P2 - A * P2) := by grind
    omega
  by_cases z : A = B
  · have : X = A := by omega
    subst this
    rw [hGX] at hGA
    subst hGA
    have : FX = FA := by rw [l1]; simp
    subst this
    exact u
  · have d : 0 < B - A := by omega
    refine Int.le_of_mul_le_mul_right (a := B - A) ?_ d
    have m1 := Int.mul_le_mul_of_nonneg_right cv2 (by omega : 0 ≤ T1)
    have m2 := Int.mul_le_mul_of_nonneg_right u (by omega : 0 ≤ B - X)
    have m3 := Int.mul_le_mul_of_nonneg_right v (by omega : 0 ≤ X - A)
    have e1 : (GA * (B - X) + GB * (X - A)) * T1 = GA * T1 * (B - X) + GB * T1 * (X - A) := by grind
    have e2 : FX * T2 * (B - A) = FA * T2 * (B - X) + FB * T2 * (X - A) := by
      rw [l1, l2]
      grind
    have e3 : GX * T1 * (B - A) = GX * (B - A) * T1 := by grind
    omega
theorem nox_of {ks os : List Kind} (h : Dom ks os) {p w : Int} (p0 : 0 ≤ p) (pw : p ≤ w) (w1 : 1 ≤ w) : NoX ks os p w := h p w p0 pw w1
theorem Dom.refl (ks : List Kind) : Dom ks ks := fun _ _ _ _ _ => Int.le_refl _
theorem Dom.trans {a b c : List Kind} (gb : GoodK b) (ga : GoodK a) (gc : GoodK c) (h : Dom a b) (h' : Dom b c) : Dom a c := fun p w p0 pw w1 => by
  have x := h p w p0 pw w1
  have y := h' p w p0 pw w1
  have da := (share_norm ga p0 pw w1).1
  have db := (share_norm gb p0 pw w1).1
  have dc := (share_norm gc p0 pw w1).1
  generalize shareAns a p w = A at *
  generalize shareAns b p w = B at *
  generalize shareAns c p w = C at *
  refine Int.le_of_mul_le_mul_right (a := B.2) ?_ db
  have m1 := Int.mul_le_mul_of_nonneg_right x (by omega : 0 ≤ C.2)
  have m2 := Int.mul_le_mul_of_nonneg_right y (by omega : 0 ≤ A.2)
  have e1 : C.1 * A.2 * B.2 = C.1 * B.2 * A.2 := by grind
  have e2 : A.1 * C.2 * B.2 = A.1 * B.2 * C.2 := by grind
  have e3 : B.1 * C.2 * A.2 = B.1 * A.2 * C.2 := by grind
  omega
end Ev

set_option Elab.async false
set_option linter.all false
set_option maxRecDepth 100000
set_option maxHeartbeats 4000000
namespace Ev
open PySem PySem.Spec PyProof.Rows L2 TL
/-! ### purses that are as even -/
def Even2 (ks os : List Kind) : Prop := ∀ p w : Int, 0 ≤ p → p ≤ w → 1 ≤ w → (shareAns os p w).1 * (shareAns ks p w).2 = (shareAns ks p w).1 * (shareAns os p w).2
theorem Even2.dom {ks os : List Kind} (h : Even2 ks os) : Dom ks os := fun p w p0 pw w1 => Int.le_of_eq (h p w p0 pw w1)
theorem Even2.symm {ks os : List Kind} (h : Even2 ks os) : Even2 os ks := fun p w p0 pw w1 => (h p w p0 pw w1).symm
def wideK (m : Int) (ks : List Kind) : List Kind := ks.map fun k => (k.1, m * k.2)
def tallK (m : Int) (ks : List Kind) : List Kind := ks.map fun k => (m * k.1, k.2)
def moreK (t : Int) (ks : List Kind) : List Kind := ks.map fun k => (k.1 + t, k.2)
theorem wide_people (m : Int) : ∀ ks : List Kind, peopleOf (wideK m ks) = m * peopleOf ks
  | [] => by simp [wideK, peopleOf]
  | k :: r => by
    have ih := wide_people m r
    show peopleOf ((k.1, m * k.2) :: wideK m r) = _
    rw [people_cons, people_cons, ih, Int.mul_add]
theorem wide_total (m : Int) : ∀ ks : List Kind, totalOf (wideK m ks) = m * totalOf ks
  | [] => by simp [wideK, totalOf]
  | k :: r => by
    have ih := wide_total m r
    show totalOf ((k.1, m * k.2) :: wideK m r) = _
    rw [total_cons, total_cons, ih, Int.mul_add]
    show k.1 * (m * k.2) + _ = _
    rw [Int.mul_left_comm]
theorem wide_walk (m w : Int) : ∀ (ks : List Kind) (n : Int), walkS w (wideK m ks) n = walkS (w * m) ks n
  | [], n => rfl
  | k :: r, n => by
    have ih := wide_walk m w r
    show k.1 * mn n (m * k.2 * w) + walkS w (wideK m r) (n - mn n (m * k.2 * w)) = k.1 * mn n (k.2 * (w * m)) + walkS (w * m) r (n - mn n (k.2 * (w * m)))
    rw [show m * k.2 * w = k.2 * (w * m) by grind, ih]
theorem even_wide {m : Int} (m1 : 1 ≤ m) (ks : List Kind) : Even2 ks (wideK m ks) := fun p w _ _ _ => by
  unfold shareAns
  rw [wide_total, wide_people, wide_walk]
  by_cases z : totalOf ks = 0
  · rw [if_pos z, if_pos (by rw [z, Int.mul_zero])]
  · rw [if_neg z, if_neg (fun h => by rcases Int.mul_eq_zero.mp h with h | h <;> omega)]
    have e := walk_scale (w := w) (m := m) (by omega) ks (p * peopleOf ks)
    rw [show p * (m * peopleOf ks) = p * peopleOf ks * m by grind, e]
    show walkS w ks (p * peopleOf ks) * m * (totalOf ks * w) = walkS w ks (p * peopleOf ks) * (m * totalOf ks * w)
    grind
theorem tall_people (m : Int) (ks : List Kind) : peopleOf (tallK m ks) = peopleOf ks := by
  unfold peopleOf tallK
  rw [List.map_map]
  rfl
theorem tall_total (m : Int) : ∀ ks : List Kind, totalOf (tallK m ks) = m * totalOf ks
  | [] => by simp [tallK, totalOf]
  | k :: r => by
    have ih := tall_total m r
    show totalOf ((m * k.1, k.2) :: tallK m r) = _
    rw [total_cons, total_cons, ih, Int.mul_add]
    show m * k.1 * k.2 + _ = _
    rw [Int.mul_assoc]
theorem tall_walk (m w : Int) : ∀ (ks : List Kind) (n : Int), walkS w (tallK m ks) n = m * walkS w ks n
  | [], n => by simp [walkS, tallK]
  | k :: r, n => by
    have ih := tall_walk m w r
    show m * k.1 * mn n (k.2 * w) + walkS w (tallK m r) (n - mn n (k.2 * w)) = m * (k.1 * mn n (k.2 * w) + walkS w r (n - mn n (k.2 * w)))
    rw [ih]
    grind
theorem even_tall {m : Int} (m1 : 1 ≤ m) (ks : List Kind) : Even2 ks (tallK m ks) := fun p w _ _ _ => by
  unfold shareAns
  rw [tall_total, tall_people, tall_walk]
  by_cases z : totalOf ks = 0
  · rw [if_pos z, if_pos (by rw [z, Int.mul_zero])]
  · rw [if_neg z, if_neg (fun h => by rcases Int.mul_eq_zero.mp h with h | h <;> omega)]
    show m * walkS w ks (p * peopleOf ks) * (totalOf ks * w) = walkS w ks (p * peopleOf ks) * (m * totalOf ks * w)
    grind
/-! ### what the program answers -/
def xAt (ks os : List Kind) (e : Int) : Bool := decide ((shareAns ks e (peopleOf ks)).1 * (shareAns os e (peopleOf ks)).2 < (shareAns os e (peopleOf ks)).1 * (shareAns ks e (peopleOf ks)).2)
def endsK (ks : List Kind) : List Int := (List.range ks.length).map fun i => peopleOf (ks.take (i + 1))
/-- the first crossing told -/
def crossOf (ks os : List Kind) : Option Int := (endsK ks).find? (xAt ks os)
theorem ends_mem {ks : List Kind} (g : GoodK ks) {e : Int} (h : e ∈ endsK ks) : 0 ≤ e ∧ e ≤ peopleOf ks := by
  obtain ⟨i, _, rfl⟩ := List.mem_map.mp h
  exact ⟨(g.take_people _).1, g.take_le _⟩
theorem cross_none {ks os : List Kind} (g : GoodK ks) (g' : GoodK os) : crossOf ks os = none ↔ Dom ks os := by
  have gp := g.people_pos
  unfold crossOf
  rw [List.find?_eq_none]
  constructor
  · intro h
    refine dom_ends g g' fun i hi => ?_
    have := h _ (List.mem_map.mpr ⟨i, List.mem_range.mpr hi, rfl⟩)
    unfold xAt at this
    unfold NoX
    simpa using this
  · intro d e he
    have b := ends_mem g he
    have := d e (peopleOf ks) b.1 b.2 gp
    unfold xAt
    simpa using this
theorem cross_some {ks os : List Kind} (g : GoodK ks) {e : Int} (h : crossOf ks os = some e) : 0 ≤ e ∧ e ≤ peopleOf ks ∧ ¬ NoX ks os e (peopleOf ks) := by
  have m := List.mem_of_find?_eq_some h
  have b := ends_mem g m
  have x := List.find?_some h
  unfold xAt at x
  unfold NoX
  have := of_decide_eq_true x
  exact ⟨b.1, b.2, by omega⟩
noncomputable def domB (ks os : List Kind) : Bool := (crossOf ks os).isNone
theorem domB_iff {ks os : List Kind} (g : GoodK ks) (g' : GoodK os) : (crossOf ks os).isNone = true ↔ Dom ks os := by
  rw [Option.isNone_iff_eq_none, cross_none g g']
/-- the law looks at the ends of both -/
theorem dom_bends {ks os : List Kind} (g : GoodK ks) (g' : GoodK os) : Dom ks os ↔ (∀ e ∈ endsK ks, NoX ks os e (peopleOf ks)) ∧ ∀ e ∈ endsK os, NoX ks os e (peopleOf os) := by
  constructor
  · intro d
    exact ⟨fun e he => by have b := ends_mem g he; exact d e _ b.1 b.2 g.people_pos, fun e he => by have b := ends_mem g' he; exact d e _ b.1 b.2 g'.people_pos⟩
  · intro h
    exact dom_ends g g' fun i hi => h.1 _ (List.mem_map.mpr ⟨i, List.mem_range.mpr hi, rfl⟩)
end Ev

set_option Elab.async false
set_option linter.all false
set_option maxRecDepth 100000
set_option maxHeartbeats 4000000
namespace Ev
open PySem PySem.Spec PyProof.Rows L2 TL
/-! ### what a rule takes of a purse of incomes -/
def takenOf (bs : List Band) (ks : List Kind) : Int := (ks.map fun k => (100 * k.1 - leftOf bs k.1) * k.2).sum
/-- kinds that are incomes -/
def Incomes (ks : List Kind) : Prop := ∀ k ∈ ks, k.1 ≤ 10 ^ 30
def spBandsOf (C : Addr) : Sp := fun vs H Q _ => ∃ (r : Addr) (bs : List Band), vs = [.ref r] ∧ RuleAt C H r bs ∧ ∀ t H', Same H H' → BandsAt H' t bs → Good bs → Q (.ref t) H'
def spIncomesOf (C : Addr) : Sp := fun vs H Q _ => ∃ (r : Addr) (ks : List Kind), vs = [.ref r] ∧ PurseAt C H r ks ∧ Incomes ks ∧ ∀ t H', Same H H' → KindsAt H' t ks → GoodK ks → Q (.ref t) H'
def spTaken (C CP : Addr) : Sp := fun vs H Q _ => ∃ (r p : Addr) (bs : List Band) (ks : List Kind), vs = [.ref r, .ref p] ∧ RuleAt C H r bs ∧ PurseAt CP H p ks ∧ Incomes ks ∧ ∀ H', Same H H' → Q (.int (takenOf bs ks)) H'
/-- the law's own sum -/
def spTakenL : Sp := fun vs H Q _ => ∃ (t u : Addr) (bs : List Band) (ks : List Kind), vs = [.ref t, .ref u] ∧ BandsAt H t bs ∧ Good bs ∧ KindsAt H u ks ∧ GoodK ks ∧ Incomes ks ∧ ∀ H', Same H H' → Q (.int (takenOf bs ks)) H'
theorem Good.left_le {bs : List Band} (g : Good bs) {x : Int} (x0 : 0 ≤ x) (x1 : x ≤ 10 ^ 30) : leftOf bs x ≤ 10 ^ 34 := by
  obtain ⟨j, b, hb, h0, h1⟩ := g.find x0
  rw [leftOf_at g hb h0 h1]
  have v := g.value b (List.mem_of_getElem? hb)
  have s := g.step b (List.mem_of_getElem? hb)
  have st := g.nonneg' (List.mem_of_getElem? hb)
  unfold left1
  have : b.2.2 * (x - b.1) ≤ 1000 * (x - b.1) := Int.mul_le_mul_of_nonneg_right s.2 (by omega)
  omega
end Ev
namespace Ev
open PySem PySem.Spec PyProof.Rows L2 TL
end Ev

set_option Elab.async false
set_option linter.all false
set_option maxRecDepth 100000
set_option maxHeartbeats 4000000
namespace Ev
open PySem PySem.Spec PyProof.Rows L2 TL L2.DX
/-! ### sorted(d.items()), keys and values ints -/
abbrev entI (e : Int × Int) : Key × V := (Sum.inl e.1, V.int e.2)
/-- the pair of ints that stands at a place -/
def prOf (h : Heap) (v : Value) : Int × Int :=
  match v with
  | .ref a => match (h.get? a).map Obj.data with
    | some (Data.seq xs _) => match xs.toList with
      | [.int x _, .int y _] => (x, y)
      | _ => (0, 0)
    | _ => (0, 0)
  | _ => (0, 0)
def rSortItI : V → Hp → VK → Prop := fun x H Q => ∃ (d : Addr) (ns : List (Int × Int)), x = .ref d ∧ H d = some (.dK (ns.map entI)) ∧
  ∀ (H' : Hp) (p : Addr) (ts : List Addr) (ms : List (Int × Int)), Same H H' → ms.Perm ns → ms.Pairwise (fun x y => SrtO.lexB y x = false) → H p = none → H' p = some (.lst (ts.map V.ref)) →
    Paired (fun (t : Addr) (q : Int × Int) => H t = none ∧ H' t = some (.tup [.int q.1, .int q.2])) ts ms → Q (.ref p) H'
def tSortItI (te : TE) : TE := fun σ H Q => te σ H fun x H1 => rSortItI x H1 Q
section
variable {X : Cx} {e : Expr} {te : TE} {p apos cpos pos : Pos}
end
end Ev

set_option Elab.async false
set_option linter.all false
set_option maxRecDepth 100000
set_option maxHeartbeats 4000000
namespace Ev
open PySem PySem.Spec PyProof.Rows L2 TL
/-! ### counts by what is left -/
/-- c more at k: in its place, or at the end -/
def addR : List (Int × Int) → Int → Int → List (Int × Int)
  | [], k, c => [(k, c)]
  | e :: r, k, c => if e.1 = k then (e.1, e.2 + c) :: r else e :: addR r k c
def getN (ns : List (Int × Int)) (k : Int) : Int := ((ns.find? fun e => decide (e.1 = k)).map (·.2)).getD 0
theorem val_entI (ns : List (Int × Int)) (k : Int) : (valV (ns.map entI) (Sum.inl k)).getD (V.int 0) = V.int (getN ns k) := by
  unfold getN
  induction ns with
  | nil => rfl
  | cons e r ih =>
    rw [List.map_cons]
    by_cases h : e.1 = k
    · rw [valV_pos (show (entI e).1 = Sum.inl k by rw [← h]), List.find?_cons, decide_eq_true h]
      rfl
    · rw [valV_neg (show ¬ (entI e).1 = Sum.inl k from fun z => h (Sum.inl.inj z)), List.find?_cons, decide_eq_false h]
      exact ih
theorem any_entI (ns : List (Int × Int)) (k : Int) : ((ns.map entI).any fun kv => decide (kv.1 = (Sum.inl k : Key))) = ns.any fun e => decide (e.1 = k) := by
  induction ns with
  | nil => rfl
  | cons e r ih =>
    rw [List.map_cons, List.any_cons, List.any_cons, ih]
    congr 1
    by_cases h : e.1 = k
    · rw [decide_eq_true h, decide_eq_true (show (entI e).1 = Sum.inl k by rw [← h])]
    · rw [decide_eq_false h, decide_eq_false (show ¬ (entI e).1 = Sum.inl k from fun z => h (Sum.inl.inj z))]
theorem put_entI {ns : List (Int × Int)} (k c : Int) (h : (ns.map (·.1)).Nodup) : putK (ns.map entI) (Sum.inl k) (V.int (getN ns k + c)) = (addR ns k c).map entI := by
  unfold putK
  rw [any_entI]
  induction ns with
  | nil => show [((Sum.inl k : Key), V.int (0 + c))] = _; rw [Int.zero_add]; rfl
  | cons e r ih =>
    rw [List.map_cons, List.nodup_cons] at h
    obtain ⟨h1, h2⟩ := h
    by_cases hk : e.1 = k
    · have a : ((e :: r).any fun e => decide (e.1 = k)) = true := by rw [List.any_cons, decide_eq_true hk, Bool.true_or]
      have g : getN (e :: r) k = e.2 := by
        unfold getN
        rw [List.find?_cons, decide_eq_true hk]
        rfl
      rw [if_pos a, List.map_cons, List.map_cons, g, addR, if_pos hk, List.map_cons, if_pos (show (entI e).1 = Sum.inl k by rw [← hk])]
      congr 1
      rw [List.map_map]
      refine List.map_congr_left fun x hx => ?_
      have ne : ¬ (entI x).1 = (Sum.inl k : Key) := fun z => h1 (by rw [hk, ← (Sum.inl.inj z : x.1 = k)]; exact List.mem_map_of_mem hx)
      show (if (entI x).1 = (Sum.inl k : Key) then _ else entI x) = entI x
      rw [if_neg ne]
    · have g : getN (e :: r) k = getN r k := by
        unfold getN
        rw [List.find?_cons, decide_eq_false hk]
      have a : ((e :: r).any fun e => decide (e.1 = k)) = r.any fun e => decide (e.1 = k) := by rw [List.any_cons, decide_eq_false hk, Bool.false_or]
      have ne : ¬ (entI e).1 = (Sum.inl k : Key) := fun z => hk (Sum.inl.inj z)
      have ih' := ih h2
      rw [a, g, addR, if_neg hk, List.map_cons, List.map_cons, List.map_cons, if_neg ne, ← ih']
      split
      · rfl
      · rfl
theorem addR_keys (ns : List (Int × Int)) (k c : Int) : (addR ns k c).map (·.1) = if k ∈ ns.map (·.1) then ns.map (·.1) else ns.map (·.1) ++ [k] := by
  induction ns with
  | nil => rfl
  | cons e r ih =>
    by_cases hk : e.1 = k
    · rw [addR, if_pos hk, List.map_cons, List.map_cons, if_pos (by rw [← hk]; exact List.mem_cons_self)]
    · rw [addR, if_neg hk, List.map_cons, List.map_cons, ih]
      by_cases m : k ∈ r.map (·.1)
      · rw [if_pos m, if_pos (List.mem_cons_of_mem _ m)]
      · rw [if_neg m, if_neg (fun z => by rcases List.mem_cons.mp z with e1 | e1; exact hk e1.symm; exact m e1)]
        rfl
theorem addR_nodup {ns : List (Int × Int)} (k c : Int) (h : (ns.map (·.1)).Nodup) : ((addR ns k c).map (·.1)).Nodup := by
  rw [addR_keys]
  split
  · exact h
  · rename_i m
    rw [List.nodup_append]
    exact ⟨h, by simp, fun a ha b hb => by rw [List.mem_singleton.mp hb]; exact fun z => m (by rw [← z]; exact ha)⟩
theorem addR_len (ns : List (Int × Int)) (k c : Int) : (addR ns k c).length ≤ ns.length + 1 := by
  have e := congrArg List.length (addR_keys ns k c)
  rw [List.length_map] at e
  rw [e]
  split
  · rw [List.length_map]; omega
  · rw [List.length_append, List.length_map]; simp
theorem addR_mem {ns : List (Int × Int)} {k c : Int} {e : Int × Int} (h : e ∈ addR ns k c) : e.1 = k ∨ e.1 ∈ ns.map (·.1) := by
  have m : e.1 ∈ (addR ns k c).map (·.1) := List.mem_map_of_mem h
  rw [addR_keys] at m
  split at m
  · exact .inr m
  · rcases List.mem_append.mp m with m | m
    · exact .inr m
    · exact .inl (List.mem_singleton.mp m)
theorem addR_pos {ns : List (Int × Int)} {k c : Int} (hc : 1 ≤ c) (h : ∀ e ∈ ns, 1 ≤ e.2) : ∀ e ∈ addR ns k c, 1 ≤ e.2 := by
  induction ns with
  | nil => intro e he; rw [List.mem_singleton.mp he]; exact hc
  | cons x r ih =>
    intro e he
    have hx := h x List.mem_cons_self
    have hr := ih fun y hy => h y (List.mem_cons_of_mem _ hy)
    unfold addR at he
    split at he
    · rcases List.mem_cons.mp he with rfl | he
      · show 1 ≤ x.2 + c; omega
      · exact h e (List.mem_cons_of_mem _ he)
    · rcases List.mem_cons.mp he with rfl | he
      · exact hx
      · exact hr e he
theorem addR_people (ns : List (Int × Int)) (k c : Int) : peopleOf (addR ns k c) = peopleOf ns + c := by
  induction ns with
  | nil => simp [addR, peopleOf]
  | cons x r ih =>
    unfold addR
    unfold peopleOf at *
    split
    · simp only [List.map_cons, List.sum_cons]; omega
    · simp only [List.map_cons, List.sum_cons, ih]; omega
theorem addR_heap {ns : List (Int × Int)} {k c : Int} (hc : 0 ≤ c) (h : ∀ e ∈ ns, 0 ≤ e.2) : (heapOf (addR ns k c)).Perm (heapOf ns ++ List.replicate c.toNat k) := by
  induction ns with
  | nil => simp [addR, heapOf]
  | cons x r ih =>
    have hx := h x List.mem_cons_self
    have ih' := ih fun y hy => h y (List.mem_cons_of_mem _ hy)
    unfold addR
    split
    · rename_i e
      rw [heap_cons, heap_cons]
      have : (x.2 + c).toNat = x.2.toNat + c.toNat := by omega
      show (List.replicate (x.2 + c).toNat x.1 ++ heapOf r).Perm _
      rw [this, ← List.replicate_append_replicate, List.append_assoc, List.append_assoc, ← e]
      exact List.Perm.append_left _ List.perm_append_comm
    · rw [heap_cons, heap_cons, List.append_assoc]
      exact List.Perm.append_left _ ih'
/-- what people have behind a rule, in the order in which it comes first -/
def behindOf (bs : List Band) (ks : List Kind) : List Kind := ks.foldl (fun ns k => addR ns (leftOf bs k.1) k.2) []
theorem behind_snoc (bs : List Band) (ks : List Kind) (k : Kind) : behindOf bs (ks ++ [k]) = addR (behindOf bs ks) (leftOf bs k.1) k.2 := by
  unfold behindOf
  rw [List.foldl_append]
  rfl
theorem behind_nodup (bs : List Band) (ks : List Kind) : ((behindOf bs ks).map (·.1)).Nodup := by
  refine snoc_ind (P := fun ks => ((behindOf bs ks).map (·.1)).Nodup) List.nodup_nil (fun l b ih => ?_) ks
  rw [behind_snoc]
  exact addR_nodup _ _ ih
theorem behind_len (bs : List Band) (ks : List Kind) : (behindOf bs ks).length ≤ ks.length := by
  refine snoc_ind (P := fun ks => (behindOf bs ks).length ≤ ks.length) (Nat.le_refl _) (fun l b ih => ?_) ks
  rw [behind_snoc, List.length_append]
  have := addR_len (behindOf bs l) (leftOf bs b.1) b.2
  show _ ≤ l.length + 1
  omega
theorem behind_people (bs : List Band) (ks : List Kind) : peopleOf (behindOf bs ks) = peopleOf ks := by
  refine snoc_ind (P := fun ks => peopleOf (behindOf bs ks) = peopleOf ks) rfl (fun l b ih => ?_) ks
  rw [behind_snoc, addR_people, people_snoc, ih]
theorem behind_mem {bs : List Band} {ks : List Kind} : ∀ e ∈ behindOf bs ks, ∃ k ∈ ks, e.1 = leftOf bs k.1 := by
  refine snoc_ind (P := fun ks => ∀ e ∈ behindOf bs ks, ∃ k ∈ ks, e.1 = leftOf bs k.1) (fun e he => by cases he) (fun l b ih => ?_) ks
  intro e he
  rw [behind_snoc] at he
  rcases addR_mem he with h | h
  · exact ⟨b, by simp, h⟩
  · obtain ⟨x, hx, e1⟩ := List.mem_map.mp h
    obtain ⟨k, hk, e2⟩ := ih x hx
    exact ⟨k, List.mem_append_left _ hk, by rw [← e1, e2]⟩
theorem behind_pos {bs : List Band} {ks : List Kind} (h : ∀ k ∈ ks, 1 ≤ k.2) : ∀ e ∈ behindOf bs ks, 1 ≤ e.2 := by
  revert h
  refine snoc_ind (P := fun ks => (∀ k ∈ ks, 1 ≤ k.2) → ∀ e ∈ behindOf bs ks, 1 ≤ e.2) (fun _ e he => by cases he) (fun l b ih h => ?_) ks
  rw [behind_snoc]
  exact addR_pos (h b (by simp)) (ih fun k hk => h k (List.mem_append_left _ hk))
theorem behind_heap {bs : List Band} {ks : List Kind} (h : ∀ k ∈ ks, 1 ≤ k.2) : (heapOf (behindOf bs ks)).Perm ((heapOf ks).map (leftOf bs)) := by
  revert h
  refine snoc_ind (P := fun ks => (∀ k ∈ ks, 1 ≤ k.2) → (heapOf (behindOf bs ks)).Perm ((heapOf ks).map (leftOf bs))) (fun _ => List.Perm.refl _) (fun l b ih h => ?_) ks
  have hl : ∀ k ∈ l, 1 ≤ k.2 := fun k hk => h k (List.mem_append_left _ hk)
  have hb := h b (by simp)
  rw [behind_snoc, heap_snoc, List.map_append, List.map_replicate]
  exact (addR_heap (by omega) fun e he => by have := behind_pos (bs := bs) hl e he; omega).trans ((ih hl).append_right _)
/-- the purse behind a rule: what is left, lowest first -/
structure Bk (bs : List Band) (ks ms : List Kind) : Prop where
  perm : ms.Perm (behindOf bs ks)
  rise : ms.Pairwise fun x y => x.1 < y.1
theorem Bk.of_le {bs : List Band} {ks ms : List Kind} (p : ms.Perm (behindOf bs ks)) (h : ms.Pairwise fun x y => x.1 ≤ y.1) : Bk bs ks ms := by
  refine ⟨p, ?_⟩
  have nd : (ms.map (·.1)).Nodup := (p.map (·.1)).nodup_iff.mpr (behind_nodup bs ks)
  have nd2 : ms.Pairwise fun x y => x.1 ≠ y.1 := List.pairwise_map.mp nd
  exact (h.and nd2).imp fun {x y} z => by have := z.1; have := z.2; omega
theorem Bk.uniq {bs : List Band} {ks ms ns : List Kind} (h : Bk bs ks ms) (g : Bk bs ks ns) : ms = ns :=
  List.Perm.eq_of_pairwise (le := fun x y => x.1 < y.1) (fun a b _ _ h1 h2 => by omega) h.rise g.rise (h.perm.trans g.perm.symm)
theorem Bk.people {bs : List Band} {ks ms : List Kind} (h : Bk bs ks ms) : peopleOf ms = peopleOf ks := by
  rw [← behind_people bs ks]
  have key : ∀ {xs ys : List Kind}, xs.Perm ys → peopleOf xs = peopleOf ys := fun p => by
    induction p with
    | nil => rfl
    | cons x _ ih => simp only [peopleOf, List.map_cons, List.sum_cons] at *; omega
    | swap x y l => simp only [peopleOf, List.map_cons, List.sum_cons]; omega
    | trans _ _ h1 h2 => exact h1.trans h2
  exact key h.perm
theorem Bk.good {bs : List Band} {ks ms : List Kind} (h : Bk bs ks ms) (g : Good bs) (gk : GoodK ks) (hi : Incomes ks) (hp : peopleOf ks ≤ 10 ^ 72) : GoodK ms := by
  have pos : ∀ e ∈ ms, 1 ≤ e.2 := fun e he => behind_pos (fun k hk => (gk.cnt k hk).1) e (h.perm.mem_iff.mp he)
  have key : ∀ e ∈ ms, 0 ≤ e.1 ∧ e.1 ≤ 10 ^ 34 := fun e he => by
    obtain ⟨k, hk, e1⟩ := behind_mem e (h.perm.mem_iff.mp he)
    rw [e1]
    exact ⟨g.left_nonneg (gk.low k hk), g.left_le (gk.low k hk) (hi k hk)⟩
  have pe := h.people
  refine ⟨?_, ?_, fun e he => (key e he).1, ?_, fun e he => by have := (key e he).2; omega, fun e he => ⟨pos e he, ?_⟩⟩
  · cases ms with
    | nil =>
      have l1 := gk.len1
      cases ks with
      | nil => simp at l1
      | cons k r =>
        have p1 := (gk.cnt k List.mem_cons_self).1
        have p2 : 0 ≤ peopleOf r := (sum_bound (fun k => k.2) (m := 10 ^ 72) (ks := r) fun x hx => ⟨gk.cnt0 x (List.mem_cons_of_mem _ hx), (gk.cnt x (List.mem_cons_of_mem _ hx)).2⟩).1
        have e : peopleOf (k :: r) = k.2 + peopleOf r := by simp [peopleOf]
        have z : peopleOf ([] : List Kind) = 0 := rfl
        omega
    | cons _ _ => simp
  · rw [h.perm.length_eq]
    have := behind_len bs ks
    have := gk.len30
    omega
  · intro i b c hb hc
    obtain ⟨hb1, hb2⟩ := List.getElem?_eq_some_iff.mp hb
    obtain ⟨hc1, hc2⟩ := List.getElem?_eq_some_iff.mp hc
    have := List.pairwise_iff_getElem.mp h.rise i (i + 1) hb1 hc1 (by omega)
    rw [hb2, hc2] at this
    exact this
  · have : e.2 ≤ peopleOf ms := by
      clear pe key h
      induction ms with
      | nil => cases he
      | cons x r ih =>
        have er : peopleOf (x :: r) = x.2 + peopleOf r := by simp [peopleOf]
        have hr := fun y hy => pos y (List.mem_cons_of_mem x hy)
        have nn : ∀ l : List Kind, (∀ y ∈ l, 1 ≤ y.2) → 0 ≤ peopleOf l := fun l hl => by
          induction l with
          | nil => simp [peopleOf]
          | cons y l ihl =>
            have := hl y List.mem_cons_self
            have := ihl fun z hz => hl z (List.mem_cons_of_mem _ hz)
            have er : peopleOf (y :: l) = y.2 + peopleOf l := by simp [peopleOf]
            omega
        have n0 := nn r hr
        rcases List.mem_cons.mp he with rfl | he
        · omega
        · have := ih hr he
          have := pos x List.mem_cons_self
          omega
    omega
theorem heap_rise {ms : List Kind} (h : ms.Pairwise fun x y => x.1 < y.1) : (heapOf ms).Pairwise (· ≤ ·) := by
  induction ms with
  | nil => exact List.Pairwise.nil
  | cons k r ih =>
    rw [List.pairwise_cons] at h
    rw [heap_cons, List.pairwise_append]
    refine ⟨List.pairwise_replicate.mpr (.inr (Int.le_refl _)), ih h.2, fun a ha b hb => ?_⟩
    have e1 := List.eq_of_mem_replicate ha
    obtain ⟨x, hx, hb2⟩ := List.mem_flatMap.mp hb
    have e2 := List.eq_of_mem_replicate hb2
    have := h.1 x hx
    omega
/-- person by person -/
theorem Bk.heap {bs : List Band} {ks ms : List Kind} {ns : List Int} (h : Bk bs ks ms) (hc : ∀ k ∈ ks, 1 ≤ k.2) (p : ns.Perm ((heapOf ks).map (leftOf bs))) (r : ns.Pairwise (· ≤ ·)) : heapOf ms = ns := by
  have q : (heapOf ms).Perm (heapOf (behindOf bs ks)) := by
    unfold heapOf
    exact h.perm.flatMap_right _
  exact List.Perm.eq_of_pairwise (le := (· ≤ ·)) (fun a b _ _ h1 h2 => Int.le_antisymm h1 h2) (heap_rise h.rise) r (q.trans ((behind_heap hc).trans p.symm))
def spBehind (C CP : Addr) : Sp := fun vs H Q _ => ∃ (r p : Addr) (bs : List Band) (ks : List Kind), vs = [.ref r, .ref p] ∧ RuleAt C H r bs ∧ PurseAt CP H p ks ∧ Incomes ks ∧ peopleOf ks ≤ 10 ^ 72 ∧
  ∀ (q : Addr) (H' : Hp) (ms : List Kind), Same H H' → PurseAt CP H' q ms → Bk bs ks ms → Q (.ref q) H'
theorem getD_find {ns : List (Int × Int)} {k c : Int} (h : (ns.map (·.1)).Nodup) (m : (k, c) ∈ ns) : valV (ns.map entI) (Sum.inl k) = some (V.int c) := by
  induction ns with
  | nil => cases m
  | cons e r ih =>
    rw [List.map_cons, List.nodup_cons] at h
    rw [List.map_cons]
    rcases List.mem_cons.mp m with rfl | m
    · exact valV_pos rfl
    · have ne : ¬ e.1 = k := fun z => h.1 (by rw [z]; exact List.mem_map_of_mem (f := (·.1)) m)
      rw [valV_neg (show ¬ (entI e).1 = Sum.inl k from fun z => ne (Sum.inl.inj z))]
      exact ih h.2 m
/-- keys in order, each with its count -/
theorem keyed_perm {ns : List (Int × Int)} (h : (ns.map (·.1)).Nodup) {ys : List Int} (p : ys.Perm (ns.map (·.1))) : ∃ ms : List (Int × Int), ms.Perm ns ∧ ms.map (·.1) = ys :=
  perm_lift (fun e : Int × Int => e.1) p ns rfl
theorem RowsAt.fxD {α : Type} {f : α → List V} {H H' : Hp} {t d : Addr} {xs : List α} {kvs : List (Key × V)} (h : RowsAt f H t xs) (hd : H d = some (.dK kvs)) (F : Fx d H H') : RowsAt f H' t xs := by
  obtain ⟨rs, e1, e2, e3⟩ := h
  have ne : ∀ (b : Addr) ys, H b = some (.tup ys) → b ≠ d := fun b ys e z => by
    rw [z, hd] at e
    cases e
  exact ⟨rs, F _ _ (ne _ _ e1) e1, e2, fun i r b h1 h2 => F _ _ (ne _ _ (e3 i r b h1 h2)) (e3 i r b h1 h2)⟩
theorem BandsAt.fxD {H H' : Hp} {t d : Addr} {xs : List Band} {kvs : List (Key × V)} (h : BandsAt H t xs) (hd : H d = some (.dK kvs)) (F : Fx d H H') : BandsAt H' t xs := by
  obtain ⟨rs, e1, e2, e3⟩ := h
  have ne : ∀ (b : Addr) ys, H b = some (.tup ys) → b ≠ d := fun b ys e z => by
    rw [z, hd] at e
    cases e
  exact ⟨rs, F _ _ (ne _ _ e1) e1, e2, fun i r b h1 h2 => F _ _ (ne _ _ (e3 i r b h1 h2)) (e3 i r b h1 h2)⟩
theorem RuleAt.fxD {C : Addr} {H H' : Hp} {r d : Addr} {bs : List Band} {kvs : List (Key × V)} (h : RuleAt C H r bs) (hd : H d = some (.dK kvs)) (F : Fx d H H') : RuleAt C H' r bs := by
  obtain ⟨dx, t, h1, h2, g⟩ := h
  exact ⟨dx, t, F _ _ (fun z => by rw [z, hd] at h1; cases h1) h1, h2.fxD hd F, g⟩
theorem PurseAt.fxD {C : Addr} {H H' : Hp} {r d : Addr} {ks : List Kind} {kvs : List (Key × V)} (h : PurseAt C H r ks) (hd : H d = some (.dK kvs)) (F : Fx d H H') : PurseAt C H' r ks := by
  obtain ⟨dx, t, h1, h2, g⟩ := h
  exact ⟨dx, t, F _ _ (fun z => by rw [z, hd] at h1; cases h1) h1, RowsAt.fxD h2 hd F, g⟩
end Ev

set_option Elab.async false
set_option linter.all false
set_option maxRecDepth 100000
set_option maxHeartbeats 4000000
namespace Ev
open PySem PySem.Spec PyProof.Rows L2 TL
/-! ### wells: the laws' other drawing list -/
def spWell (K : PySem.W.Frag) : Sp := fun vs H Q _ => ∃ (sc : Addr) (ns : List Int) (k : Int), vs = [.ref sc, .int k] ∧ SqL K H sc (ns.map V.int) ∧ ns.length ≤ 63 ∧ 0 ≤ k ∧ k ≤ 100 ∧
  ∀ (p : Addr) (H' : Hp), H p = none → Same H H' → Vt 0 H' p → Q (.ref p) H'
def spDip : Sp := fun vs H Q _ => ∃ (a : Addr) (many : Int) (n : Nat), vs = [.ref a, .int many] ∧ 1 ≤ many ∧ many ≤ 10 ^ 30 ∧ Vt n H a ∧ n ≤ 1000000000 ∧
  ∀ (r : Int) (H' : Hp), 0 ≤ r → r < many → Fx a H H' → Vt (n + 1) H' a → Q (.int r) H'
/-! ### bands as drawn -/
structure Pre (bs : List Band) : Prop where
  len1 : 1 ≤ bs.length
  len8 : bs.length ≤ 8
  first : ∀ b, bs[0]? = some b → b.1 = 0
  rises : ∀ (i : Nat) b c, bs[i]? = some b → bs[i + 1]? = some c → b.1 < c.1
  start : ∀ b ∈ bs, b.1 ≤ 10 ^ 29
  value : ∀ b ∈ bs, 0 ≤ b.2.1 ∧ b.2.1 ≤ 10 ^ 32
  step : ∀ b ∈ bs, -1000 ≤ b.2.2 ∧ b.2.2 ≤ 1000
/-- whether nothing below 0 is left, band by band -/
def fitAt (bs : List Band) (i : Nat) : Bool := match bs[i]?, bs[i + 1]? with
  | some b, some c => decide (0 ≤ left1 b (c.1 - 1))
  | some b, none => decide (0 ≤ b.2.2)
  | none, _ => true
theorem Pre.good {bs : List Band} (p : Pre bs) (h : ∀ i, i < bs.length → fitAt bs i = true) : Good bs where
  len1 := p.len1
  len8 := p.len8
  first := p.first
  rises := p.rises
  start := p.start
  value := p.value
  step := p.step
  ends := fun i b c hb hc _ => by
    have := h i (List.getElem?_eq_some_iff.mp hb).1
    unfold fitAt at this
    rw [hb, hc] at this
    exact of_decide_eq_true this
  last := fun i b hb hc => by
    have := h i (List.getElem?_eq_some_iff.mp hb).1
    unfold fitAt at this
    rw [hb, hc] at this
    exact of_decide_eq_true this
/-- what is left, by the place of the last band that begins there or before: asks less of the bands -/
structure Loose (bs : List Band) : Prop where
  len1 : 1 ≤ bs.length
  len8 : bs.length ≤ 8
  first : ∀ b, bs[0]? = some b → b.1 = 0
  step : ∀ b ∈ bs, -1000 ≤ b.2.2 ∧ b.2.2 ≤ 1000
theorem Pre.loose {bs : List Band} (p : Pre bs) : Loose bs := ⟨p.len1, p.len8, p.first, p.step⟩
theorem Good.loose {bs : List Band} (p : Good bs) : Loose bs := ⟨p.len1, p.len8, p.first, p.step⟩
def spLeft0 : Sp := fun vs H Q _ => ∃ (t : Addr) (bs : List Band) (x : Int), vs = [.ref t, .int x] ∧ BandsAt H t bs ∧ Loose bs ∧ 0 ≤ x ∧ ∀ H', Same H H' → Q (.int (leftOf bs x)) H'
def spFits : Sp := fun vs H Q _ => ∃ (t : Addr) (bs : List Band), vs = [.ref t] ∧ BandsAt H t bs ∧ Pre bs ∧ ∀ z, (z = true → Good bs) → Q (.bl z) H
def spBandsE : Sp := fun vs H Q _ => ∃ (a : Addr) (most reach : Int) (n : Nat), vs = [.ref a, .int most, .int reach] ∧ 1 ≤ most ∧ most ≤ 4 ∧ 1 ≤ reach ∧ reach ≤ 10 ^ 28 ∧ Vt n H a ∧ n ≤ 900000000 ∧
  ∀ (t : Addr) (bs : List Band) (H' : Hp), H t = none → Fx a H H' → BandsAt H' t bs → Pre bs → Vt (n + 100) H' a → Q (.ref t) H'
def spWide : Sp := fun vs H Q _ => ∃ (a : Addr) (n : Nat), vs = [.ref a] ∧ Vt n H a ∧ n ≤ 800000000 ∧
  ∀ (t : Addr) (bs : List Band) (H' : Hp), H t = none → Fx a H H' → BandsAt H' t bs → Good bs → Vt (n + 200) H' a → Q (.ref t) H'
/-- rules that keep order -/
def spKept : Sp := fun vs H Q _ => ∃ (a : Addr) (n : Nat), vs = [.ref a] ∧ Vt n H a ∧ n ≤ 800000000 ∧
  ∀ (t : Addr) (bs : List Band) (H' : Hp), H t = none → Fx a H H' → BandsAt H' t bs → Good bs → firstTurn bs = none → Vt (n + 200) H' a → Q (.ref t) H'
theorem starts_incr {ss : List Int} (h : ∀ (i : Nat) x y, ss[i]? = some x → ss[i + 1]? = some y → x < y) {x m : Int} (hx : ss.getLast? = some x) (m0 : x < m) : ∀ (i : Nat) y z, (ss ++ [m])[i]? = some y → (ss ++ [m])[i + 1]? = some z → y < z := by
  intro i y z hy hz
  rcases snoc_get hz with ⟨l1, hz⟩ | ⟨e1, rfl⟩
  · rcases snoc_get hy with ⟨_, hy⟩ | ⟨e2, _⟩
    · exact h i y z hy hz
    · omega
  · rcases snoc_get hy with ⟨_, hy⟩ | ⟨e2, _⟩
    · rw [List.getLast?_eq_getElem?] at hx
      have : ss.length - 1 = i := by omega
      rw [this, hy] at hx
      cases hx
      exact m0
    · omega
end Ev
namespace Ev
open PySem PySem.Spec PyProof.Rows L2 TL
/-- ascending starts as drawn -/
structure StE (ss : List Int) : Prop where
  first : ss[0]? = some 0
  rises : ∀ (i : Nat) x y, ss[i]? = some x → ss[i + 1]? = some y → x < y
theorem StE.len {ss : List Int} (h : StE ss) : 1 ≤ ss.length := (List.getElem?_eq_some_iff.mp h.first).1
theorem StE.nonneg {ss : List Int} (h : StE ss) : ∀ (i : Nat) x, ss[i]? = some x → 0 ≤ x
  | 0, x, e => by rw [h.first] at e; cases e; decide
  | i + 1, x, e => by
    have hl := (List.getElem?_eq_some_iff.mp e).1
    have h1 : ss[i]? = some (ss[i]'(by omega)) := List.getElem?_eq_getElem _
    have := h.rises i _ x h1 e
    have := StE.nonneg h i _ h1
    omega
theorem StE.last {ss : List Int} (h : StE ss) : ∃ x, ss.getLast? = some x := by
  have := h.len
  exact ⟨_, List.getLast?_eq_getLast (by intro z; rw [z] at this; simp at this)⟩
theorem StE.snoc {ss : List Int} {x m : Int} (h : StE ss) (hx : ss.getLast? = some x) (m0 : x < m) : StE (ss ++ [m]) :=
  ⟨by rw [List.getElem?_append_left h.len]; exact h.first, starts_incr h.rises hx m0⟩
/-- rules that go up, as far as they are drawn -/
structure Up (bs : List Band) (start here : Int) : Prop where
  hd : (bs = [] ∧ start = 0) ∨ ∃ b, bs[0]? = some b ∧ b.1 = 0
  link : ∀ (i : Nat) b c, bs[i]? = some b → bs[i + 1]? = some c → b.1 < c.1 ∧ left1 b (c.1 - 1) ≤ c.2.1
  last : ∀ b, bs.getLast? = some b → b.1 < start ∧ left1 b (start - 1) ≤ here
  all : ∀ b ∈ bs, 0 ≤ b.1 ∧ b.1 ≤ start ∧ 0 ≤ b.2.1 ∧ b.2.1 ≤ 10 ^ 32 ∧ 0 ≤ b.2.2 ∧ b.2.2 ≤ 1000
theorem Up.snoc {bs : List Band} {start here step size more : Int} (u : Up bs start here) (s0 : 0 ≤ start) (h0 : 0 ≤ here) (h1 : here ≤ 10 ^ 32) (t0 : 0 ≤ step) (t1 : step ≤ 1000) (z1 : 1 ≤ size) (m0 : 0 ≤ more) :
    Up (bs ++ [(start, here, step)]) (start + size) (here + step * (size - 1) + more) where
  hd := by
    rcases u.hd with ⟨rfl, rfl⟩ | ⟨b, hb, e⟩
    · exact .inr ⟨(0, here, step), rfl, rfl⟩
    · refine .inr ⟨b, ?_, e⟩
      rw [List.getElem?_append_left (List.getElem?_eq_some_iff.mp hb).1]
      exact hb
  link := fun i b c hb hc => by
    rcases snoc_get hc with ⟨l1, hc⟩ | ⟨e1, rfl⟩
    · rcases snoc_get hb with ⟨_, hb⟩ | ⟨e2, _⟩
      · exact u.link i b c hb hc
      · omega
    · rcases snoc_get hb with ⟨l2, hb⟩ | ⟨e2, _⟩
      · refine u.last b ?_
        rw [List.getLast?_eq_getElem?, show bs.length - 1 = i by omega]
        exact hb
      · omega
  last := fun b hb => by
    rw [List.getLast?_concat] at hb
    cases hb
    refine ⟨by show start < _; omega, ?_⟩
    show here + step * (start + size - 1 - start) ≤ _
    have : start + size - 1 - start = size - 1 := by omega
    rw [this]
    omega
  all := fun b hb => by
    rcases List.mem_append.mp hb with m | m
    · obtain ⟨a1, a2, a3⟩ := u.all b m
      exact ⟨a1, by omega, a3⟩
    · rw [List.mem_singleton.mp m]
      exact ⟨s0, by show start ≤ start + size; omega, h0, h1, t0, t1⟩
theorem Up.good {bs : List Band} {start here : Int} (u : Up bs start here) (ne : bs ≠ []) (l8 : bs.length ≤ 8) (s : start ≤ 10 ^ 29) : Good bs where
  len1 := by cases bs with | nil => exact absurd rfl ne | cons _ _ => simp
  len8 := l8
  first := fun b hb => by
    rcases u.hd with ⟨e, _⟩ | ⟨c, hc, e⟩
    · exact absurd e ne
    · rw [hc] at hb; cases hb; exact e
  rises := fun i b c hb hc => (u.link i b c hb hc).1
  start := fun b hb => by have := (u.all b hb).2.1; omega
  value := fun b hb => ⟨(u.all b hb).2.2.1, (u.all b hb).2.2.2.1⟩
  step := fun b hb => by have := (u.all b hb).2.2.2.2; omega
  ends := fun i b c hb hc n => by have := (u.all b (List.mem_of_getElem? hb)).2.2.2.2; omega
  last := fun i b hb _ => (u.all b (List.mem_of_getElem? hb)).2.2.2.2.1
theorem Up.turn {bs : List Band} {start here : Int} (u : Up bs start here) : firstTurn bs = none := by
  unfold firstTurn
  refine find_none fun j hj => ?_
  unfold turnAt
  have hb : bs[j]? = some bs[j] := List.getElem?_eq_getElem hj
  have st := (u.all _ (List.mem_of_getElem? hb)).2.2.2.2.1
  rw [hb]
  cases hc : bs[j + 1]? with
  | none =>
    have n : ¬ bs[j].2.2 < 0 := by omega
    simp [n]
  | some c =>
    have n : ¬ bs[j].2.2 < 0 := by omega
    have m : ¬ left1 bs[j] (c.1 - 1) > c.2.1 := by have := (u.link j _ c hb hc).2; omega
    simp [n, m]
end Ev

set_option Elab.async false
set_option linter.all false
set_option maxRecDepth 100000
set_option maxHeartbeats 4000000
namespace Ev
open PySem PySem.Spec PyProof.Rows L2 TL
/-! ### spots: where two rules' neighbours stand for all -/
def IsSpot (bs cs : List Band) (x : Int) : Prop := ∃ b ∈ bs ++ cs, x = b.1 ∨ (0 < b.1 ∧ x = b.1 - 1)
structure Spots (bs cs : List Band) (xs : List Int) : Prop where
  asc : xs.Pairwise (· < ·)
  mem : ∀ x, x ∈ xs ↔ IsSpot bs cs x
theorem asc_unique : ∀ {ns ms : List Int}, ns.Pairwise (· < ·) → ms.Pairwise (· < ·) → (∀ k, k ∈ ns ↔ k ∈ ms) → ns = ms
  | [], [], _, _, _ => rfl
  | [], m :: ms, _, _, h => by have := (h m).mpr List.mem_cons_self; cases this
  | n :: ns, [], _, _, h => by have := (h n).mp List.mem_cons_self; cases this
  | n :: ns, m :: ms, hn, hm, h => by
    rw [List.pairwise_cons] at hn hm
    have e : n = m := by
      have h1 := (h n).mp List.mem_cons_self
      have h2 := (h m).mpr List.mem_cons_self
      rcases List.mem_cons.mp h1 with e | h1
      · exact e
      · rcases List.mem_cons.mp h2 with e | h2
        · exact e.symm
        · have := hm.1 n h1
          have := hn.1 m h2
          omega
    subst e
    congr 1
    refine asc_unique hn.2 hm.2 fun k => ⟨fun hk => ?_, fun hk => ?_⟩
    · rcases List.mem_cons.mp ((h k).mp (List.mem_cons_of_mem _ hk)) with e | z
      · have := hn.1 k hk; omega
      · exact z
    · rcases List.mem_cons.mp ((h k).mpr (List.mem_cons_of_mem _ hk)) with e | z
      · have := hm.1 k hk; omega
      · exact z
theorem Spots.unique {bs cs : List Band} {xs ys : List Int} (h : Spots bs cs xs) (h' : Spots bs cs ys) : xs = ys := asc_unique h.asc h'.asc fun k => (h.mem k).trans (h'.mem k).symm
/-! ### what is left of neighbours -/
abbrev Quad : Type := Int × Int × Int × Int
def quad (bs cs : List Band) (x : Int) : Quad := (leftOf bs x, leftOf bs (x + 1), leftOf cs x, leftOf cs (x + 1))
def quadT (q : Quad) : List V := [.int q.1, .int q.2.1, .int q.2.2.1, .int q.2.2.2]
def brk (q : Quad) : Bool := if q.2.2.1 = q.2.2.2 then decide (q.1 ≠ q.2.1) else decide (q.1 > q.2.1) || decide (q.1 * q.2.2.2 < q.2.1 * q.2.2.1)
/-- a rule of which no more than so much is left -/
structure Tame (bs : List Band) : Prop extends Loose bs where
  nn : ∀ b ∈ bs, 0 ≤ b.1 ∧ b.1 ≤ 10 ^ 29
  val : ∀ b ∈ bs, b.2.1.natAbs < 2 ^ 900
theorem Good.tame {bs : List Band} (g : Good bs) : Tame bs := { g.loose with
  nn := fun b hb => ⟨g.nonneg' hb, g.start b hb⟩
  val := fun b hb => by
    have v := g.value b hb
    exact Nat.lt_trans (nat_lt2 (b := 200) v.1 (by omega)) (Nat.pow_lt_pow_right (by decide) (by decide)) }
theorem Tame.left_bits {bs : List Band} (g : Tame bs) {x : Int} (x0 : 0 ≤ x) (x1 : x ≤ 10 ^ 30) : (leftOf bs x).natAbs < 2 ^ 901 := by
  unfold leftOf
  split
  · rename_i b hb
    have hm := (List.mem_filter.mp (List.mem_of_getLast? hb)).1
    have s := g.step b hm
    have n := g.nn b hm
    have v := g.val b hm
    have hx : b.1 ≤ x := of_decide_eq_true (List.mem_filter.mp (List.mem_of_getLast? hb)).2
    unfold left1
    have h1 : (b.2.2 * (x - b.1)).natAbs < 2 ^ 200 := by
      rw [Int.natAbs_mul]
      have a1 : b.2.2.natAbs ≤ 1000 := by omega
      have a2 : (x - b.1).natAbs ≤ 10 ^ 30 := by omega
      exact Nat.lt_of_le_of_lt (Nat.mul_le_mul a1 a2) (by decide)
    exact add_bits v h1 (by decide) (by decide)
  · decide
def Small (q : Quad) : Prop := q.1.natAbs < 2 ^ 901 ∧ q.2.1.natAbs < 2 ^ 901 ∧ q.2.2.1.natAbs < 2 ^ 901 ∧ q.2.2.2.natAbs < 2 ^ 901
theorem quad_small {bs cs : List Band} (g : Tame bs) (g' : Tame cs) {x : Int} (x0 : 0 ≤ x) (x1 : x ≤ 10 ^ 29) : Small (quad bs cs x) := ⟨g.left_bits x0 (by omega), g.left_bits (by omega) (by omega), g'.left_bits x0 (by omega), g'.left_bits (by omega) (by omega)⟩
theorem spot_bounds {bs cs : List Band} (g : Tame bs) (g' : Tame cs) {x : Int} (h : IsSpot bs cs x) : 0 ≤ x ∧ x ≤ 10 ^ 29 := by
  obtain ⟨b, hb, e⟩ := h
  have n : 0 ≤ b.1 ∧ b.1 ≤ 10 ^ 29 := by
    rcases List.mem_append.mp hb with m | m
    · exact g.nn b m
    · exact g'.nn b m
  omega
/-! ### promises -/
def spBoth : Sp := fun vs H Q _ => ∃ (t u : Addr) (bs cs : List Band) (x : Int), vs = [.ref t, .ref u, .int x] ∧ BandsAt H t bs ∧ Good bs ∧ BandsAt H u cs ∧ Good cs ∧ 0 ≤ x ∧ ∀ p H', H p = none → Same H H' → H' p = some (.tup (quadT (quad bs cs x))) → Q (.ref p) H'
/-- at p stands the list of pairs of a spot and its quad -/
def NbAt (bs cs : List Band) (H : Hp) (p : Addr) (xs : List Int) : Prop := ∃ rs qs : List Addr, H p = some (.lst (rs.map V.ref)) ∧ rs.length = xs.length ∧ qs.length = xs.length ∧ ∀ (i : Nat) r q x, rs[i]? = some r → qs[i]? = some q → xs[i]? = some x → H r = some (.tup [.int x, .ref q]) ∧ H q = some (.tup (quadT (quad bs cs x)))
theorem NbAt.same {bs cs : List Band} {H H' : Hp} {p : Addr} {xs : List Int} (h : NbAt bs cs H p xs) (s : Same H H') : NbAt bs cs H' p xs := by
  obtain ⟨rs, qs, h1, h2, h3, h4⟩ := h
  exact ⟨rs, qs, s _ _ h1, h2, h3, fun i r q x a b c => ⟨s _ _ (h4 i r q x a b c).1, s _ _ (h4 i r q x a b c).2⟩⟩
def spNeigh : Sp := fun vs H Q _ => ∃ (t u : Addr) (bs cs : List Band), vs = [.ref t, .ref u] ∧ BandsAt H t bs ∧ Good bs ∧ BandsAt H u cs ∧ Good cs ∧ ∀ p H' xs, Same H H' → Spots bs cs xs → NbAt bs cs H' p xs → Q (.ref p) H'
/-- a rule that keeps order, or None for the plain one -/
def Other (C : Addr) (H : Hp) (v : V) (cs : List Band) : Prop := (v = .non ∧ cs = [(0, 0, 100)]) ∨ ∃ r, v = .ref r ∧ RuleAt C H r cs ∧ firstTurn cs = none
theorem Other.same {C : Addr} {H H' : Hp} {v : V} {cs : List Band} (h : Other C H v cs) (s : Same H H') : Other C H' v cs := by
  rcases h with h | ⟨r, h1, h2, h3⟩
  · exact .inl h
  · exact .inr ⟨r, h1, h2.same s, h3⟩
theorem Other.up {C : Addr} {H : Hp} {v : V} {cs : List Band} (h : Other C H v cs) : Good cs ∧ firstTurn cs = none := by
  rcases h with ⟨_, rfl⟩ | ⟨r, _, ⟨_, _, _, _, g⟩, t⟩
  · exact ⟨good1 (by decide) (by decide) (by decide) (by decide), turn1 (by decide)⟩
  · exact ⟨g, t⟩
def spOrdered (C : Addr) : Sp := fun vs H Q _ => ∃ (v : V) (cs : List Band), vs = [v] ∧ Other C H v cs ∧ ∀ t H', Same H H' → BandsAt H' t cs → Good cs → Q (.ref t) H'
def spCompared (C : Addr) : Sp := fun vs H Q _ => ∃ (r : Addr) (v : V) (bs cs : List Band), vs = [.ref r, v] ∧ RuleAt C H r bs ∧ Other C H v cs ∧ ∀ p H' xs, Same H H' → Spots bs cs xs → NbAt bs cs H' p xs → Q (.ref p) H'
def spBreaks (K : PySem.W.Frag) : Sp := fun vs H Q _ => ∃ (p : Addr) (q : Quad), vs = [.ref p] ∧ SqT K H p (quadT q) ∧ Small q ∧ Q (.bl (brk q)) H
/-- the first that breaks -/
def firstBrk (bs cs : List Band) (xs : List Int) : Option Int := xs.find? fun x => brk (quad bs cs x)
def spFirstBroken : Sp := fun vs H Q _ => ∃ (p : Addr) (bs cs : List Band) (xs : List Int), vs = [.ref p] ∧ NbAt bs cs H p xs ∧ (∀ x ∈ xs, Small (quad bs cs x)) ∧
  (firstBrk bs cs xs = none → Q .non H) ∧ ∀ x, firstBrk bs cs xs = some x → ∀ r q H', Same H H' → H' r = some (.tup [.int x, .ref q]) → H' q = some (.tup (quadT (quad bs cs x))) → Q (.ref r) H'
def spBreaking (C : Addr) : Sp := fun vs H Q _ => ∃ (r : Addr) (v : V) (bs cs : List Band), vs = [.ref r, v] ∧ RuleAt C H r bs ∧ Other C H v cs ∧ ∀ H' xs, Same H H' → Spots bs cs xs → Q (optV (firstBrk bs cs xs)) H'
def spEvens (C : Addr) : Sp := fun vs H Q _ => ∃ (r : Addr) (v : V) (bs cs : List Band), vs = [.ref r, v] ∧ RuleAt C H r bs ∧ Other C H v cs ∧ ∀ H' xs, Same H H' → Spots bs cs xs → Q (.bl (firstBrk bs cs xs).isNone) H'
/-! ### the least lump -/
def turned (q : Quad) : Prop := q.1 > q.2.1 ∨ (q.2.2.1 = q.2.2.2 ∧ q.1 ≠ q.2.1)
instance (q : Quad) : Decidable (turned q) := by unfold turned; infer_instance
def ceilOf (q : Quad) : Int := -(-(q.2.1 * q.2.2.1 - q.1 * q.2.2.2) / (q.2.2.2 - q.2.2.1))
def lumpUp (q : Quad) (l : Int) : Int := if q.2.2.1 < q.2.2.2 then (if ceilOf q > l then ceilOf q else l) else l
def lumpOf : List Quad → Int → Option Int
  | [], l => some l
  | q :: r, l => if turned q then none else lumpOf r (lumpUp q l)
def spLump (C : Addr) : Sp := fun vs H Q _ => ∃ (r : Addr) (v : V) (bs cs : List Band), vs = [.ref r, v] ∧ RuleAt C H r bs ∧ Other C H v cs ∧ ∀ H' xs, Same H H' → Spots bs cs xs → Q (optV (lumpOf (xs.map (quad bs cs)) 0)) H'
def more (l : Int) (q : Quad) : Quad := (q.1 + l, q.2.1 + l, q.2.2.1, q.2.2.2)
theorem ceil_le {a d l : Int} (h : 0 < d) : -(-a / d) ≤ l ↔ a ≤ l * d := by
  have e : -l ≤ -a / d ↔ -l * d ≤ -a := Int.le_ediv_iff_mul_le h
  have e2 : -l * d = -(l * d) := Int.neg_mul _ _
  rw [e2] at e
  constructor
  · intro z
    have := e.mp (by omega)
    omega
  · intro z
    have := e.mpr (by omega)
    omega
theorem first_none {bs cs : List Band} {xs : List Int} : firstBrk bs cs xs = none ↔ ∀ x ∈ xs, brk (quad bs cs x) = false := by
  unfold firstBrk
  rw [List.find?_eq_none]
  simp
/-- all bands' values so much greater -/
def lumped (l : Int) (bs : List Band) : List Band := bs.map fun b => (b.1, b.2.1 + l, b.2.2)
theorem Tame.lumped {bs : List Band} (g : Tame bs) {l : Int} (h : ∀ b ∈ bs, (b.2.1 + l).natAbs < 2 ^ 900) : Tame (lumped l bs) where
  len1 := by unfold Ev.lumped; rw [List.length_map]; exact g.len1
  len8 := by unfold Ev.lumped; rw [List.length_map]; exact g.len8
  first := fun b hb => by
    unfold Ev.lumped at hb
    rw [List.getElem?_map] at hb
    cases e : bs[0]? with
    | none => rw [e] at hb; cases hb
    | some c => rw [e] at hb; cases hb; exact g.first c e
  step := fun b hb => by obtain ⟨c, hc, rfl⟩ := List.mem_map.mp hb; exact g.step c hc
  nn := fun b hb => by obtain ⟨c, hc, rfl⟩ := List.mem_map.mp hb; exact g.nn c hc
  val := fun b hb => by obtain ⟨c, hc, rfl⟩ := List.mem_map.mp hb; exact h c hc
/-! ### the law's own defs -/
def spListOf (P : List Band → List Band → List Int → Prop) : Sp := fun vs H Q _ => ∃ (t u : Addr) (bs cs : List Band), vs = [.ref t, .ref u] ∧ BandsAt H t bs ∧ Tame bs ∧ BandsAt H u cs ∧ Tame cs ∧ ∀ p H' xs, H p = none → Same H H' → P bs cs xs → H' p = some (.lst (xs.map V.int)) → Q (.ref p) H'
structure StartsOf (bs cs : List Band) (xs : List Int) : Prop where
  asc : xs.Pairwise (· < ·)
  mem : ∀ x, x ∈ xs ↔ ∃ b ∈ bs ++ cs, x = b.1
def spBreaksL : Sp := fun vs H Q _ => ∃ (t u : Addr) (bs cs : List Band) (x : Int), vs = [.ref t, .ref u, .int x] ∧ BandsAt H t bs ∧ Tame bs ∧ BandsAt H u cs ∧ Tame cs ∧ 0 ≤ x ∧ x ≤ 10 ^ 29 ∧ ∀ H', Same H H' → Q (.bl (brk (quad bs cs x))) H'
def spFirstL : Sp := fun vs H Q _ => ∃ (t u : Addr) (bs cs : List Band), vs = [.ref t, .ref u] ∧ BandsAt H t bs ∧ Tame bs ∧ BandsAt H u cs ∧ Tame cs ∧ ∀ H' xs, Same H H' → Spots bs cs xs → Q (optV (firstBrk bs cs xs)) H'
def spTurnedL : Sp := fun vs H Q _ => ∃ (t u : Addr) (bs cs : List Band), vs = [.ref t, .ref u] ∧ BandsAt H t bs ∧ Tame bs ∧ BandsAt H u cs ∧ Tame cs ∧ ∀ H' xs, Same H H' → Spots bs cs xs → Q (.bl (xs.any fun x => decide (turned (quad bs cs x)))) H'
def spMoreL : Sp := fun vs H Q _ => ∃ (t : Addr) (bs : List Band) (l : Int), vs = [.ref t, .int l] ∧ BandsAt H t bs ∧ bs.length ≤ 8 ∧ ∀ u H', Same H H' → BandsAt H' u (lumped l bs) → Q (.ref u) H'
def spWhole : Sp := fun vs H Q _ => ∃ (i l : Int), vs = [.int i, .int l] ∧ Q (.bl (decide (i ≥ l))) H
theorem Good.quad_bits {bs cs : List Band} (g : Good bs) (g' : Good cs) {x : Int} (x0 : 0 ≤ x) (x1 : x ≤ 10 ^ 29) : (quad bs cs x).1.natAbs < 2 ^ 120 ∧ (quad bs cs x).2.1.natAbs < 2 ^ 120 ∧ (quad bs cs x).2.2.1.natAbs < 2 ^ 120 ∧ (quad bs cs x).2.2.2.natAbs < 2 ^ 120 := by
  have k : ∀ {bs : List Band}, Good bs → ∀ {y : Int}, 0 ≤ y → y ≤ 10 ^ 29 + 1 → (leftOf bs y).natAbs < 2 ^ 120 := fun {bs} g {y} y0 y1 => by
    have a := g.left_nonneg y0
    have b := g.left_le y0 (by omega)
    exact nat_lt2 a (by omega)
  exact ⟨k g x0 (by omega), k g (by omega) (by omega), k g' x0 (by omega), k g' (by omega) (by omega)⟩
section
variable {P : Program} {w : World} {K : PySem.W.Frag} {mg : Str → Option Value} {base : Heap}
/-- a def with defaults, no exception leaves it -/
theorem okDN {x qual : Str} {params : Arguments} {body : List Stmt} {scope : Scope} {dvs : List V} {kws : List (Str × V)} {f : Addr} {fd : FuncData} {N ps : List Str} {k : Nat} {sp : Sp} (F : FunD K x qual params body scope dvs kws f fd) (S : FnScope N ps scope) (len : ∀ vs H Q E, sp vs H Q E → vs.length = ps.length)
    (hbody : ∀ (cdv : Value) (A : Around) (outer : List Env) (s : Shared) (H : Hp) (vs : List V) (Q : VK) (E : XK), Room k (A.deeper (envOfC qual scope s.heap.objs.size f cdv)) → sp vs H Q E →
      ∃ t, PSs (cxOf CX0 P w K mg base N qual scope f cdv A outer s H E).nox body t ∧ t { nx := fun _ H' => Q .non H', rt := Q } (start N vs) H) : FnOk P w K mg base CX0 (k + 1) f fd ps sp :=
  FunD.ok F S len fun cdv A outer s H vs Q E hr hsp => by
    obtain ⟨t, h, q⟩ := hbody cdv A outer s H vs Q E hr hsp
    exact ⟨t, h.nox, q⟩
end
/-- the law's spots as they are found: each start, and what is one less than the next one -/
def fnd (xs : List Int) : Nat → List Int
  | 0 => []
  | i + 1 => fnd xs i ++ [xs.getD i 0] ++ (if i + 1 < xs.length then [xs.getD (i + 1) 0 - 1] else [])
theorem Spots.len {bs cs : List Band} {xs : List Int} (s : Spots bs cs xs) : xs.length ≤ 2 * (bs.length + cs.length) := by
  have nd : xs.Nodup := s.asc.imp fun {a b} h => by omega
  have sub : ∀ x ∈ xs, x ∈ ((bs ++ cs).map fun b => b.1) ++ ((bs ++ cs).map fun b => b.1 - 1) := fun x hx => by
    obtain ⟨b, hb, e | ⟨_, e⟩⟩ := (s.mem x).mp hx
    · rw [e]; exact List.mem_append_left _ (List.mem_map_of_mem hb)
    · rw [e]; exact List.mem_append_right _ (List.mem_map_of_mem (f := fun b : Band => b.1 - 1) hb)
  have := List.Nodup.length_le_of_subset nd sub
  simp only [List.length_append, List.length_map] at this
  omega
def optTxt : Option Int → Str
  | some i => toString i
  | none => "None"
end Ev

set_option Elab.async false
set_option linter.all false
set_option maxRecDepth 100000
set_option maxHeartbeats 4000000
namespace Ev
open PySem PySem.Spec PyProof.Rows L2 TL
/-! ### a purse of two neighbouring incomes -/
theorem nox_at {A B : List Kind} {p w : Int} {a b c d : Int} (hA : shareAns A p w = (a, b)) (hB : shareAns B p w = (c, d)) (h : a * d < c * b) : ¬ NoX A B p w := by
  unfold NoX
  rw [hA, hB]
  show ¬ c * b ≤ a * d
  omega
theorem share_two {a b c d : Int} (hc : 1 ≤ c) (hd : 1 ≤ d) (h : a * c + b * d ≠ 0) : shareAns [(a, c), (b, d)] c (c + d) = (a * c * (c + d), (a * c + b * d) * (c + d)) := by
  have t : totalOf [(a, c), (b, d)] = a * c + b * d := by simp [totalOf]
  have p : peopleOf [(a, c), (b, d)] = c + d := by simp [peopleOf]
  unfold shareAns
  rw [t, p, if_neg h]
  have m : mn (c * (c + d)) (c * (c + d)) = c * (c + d) := by unfold mn; rw [if_neg (by omega)]
  have z : mn 0 (d * (c + d)) = 0 := by
    have := Int.mul_pos (by omega : 0 < d) (by omega : 0 < c + d)
    unfold mn
    rw [if_neg (by omega)]
  have wv : walkS (c + d) [(a, c), (b, d)] (c * (c + d)) = a * c * (c + d) := by
    show a * mn (c * (c + d)) (c * (c + d)) + (b * mn (c * (c + d) - mn (c * (c + d)) (c * (c + d))) (d * (c + d)) + 0) = _
    rw [m, Int.sub_self, z, Int.mul_zero, Int.add_zero, Int.add_zero, Int.mul_assoc]
  rw [wv]
theorem share_flat1 {g n p : Int} (g0 : 0 ≤ g) (hn : 1 ≤ n) (p0 : 0 ≤ p) (pn : p ≤ n) : ∃ k, 0 < k ∧ shareAns [(g, n)] p n = (p * k, n * k) := by
  have t : totalOf [(g, n)] = g * n := by simp [totalOf]
  have q : peopleOf [(g, n)] = n := by simp [peopleOf]
  unfold shareAns
  rw [t, q]
  by_cases z : g = 0
  · rw [if_pos (by rw [z, Int.zero_mul])]
    exact ⟨1, by decide, by rw [Int.mul_one, Int.mul_one]⟩
  · have gn : 0 < g * n := Int.mul_pos (by omega) (by omega)
    rw [if_neg (by omega)]
    have m : mn (p * n) (n * n) = p * n := by
      have := Int.mul_le_mul_of_nonneg_right pn (by omega : 0 ≤ n)
      unfold mn
      rw [if_neg (by omega)]
    have wv : walkS n [(g, n)] (p * n) = p * (g * n) := by
      show g * mn (p * n) (n * n) + 0 = _
      rw [m]
      grind
    rw [wv]
    exact ⟨g * n, gn, by rw [Int.mul_comm n (g * n)]⟩
/-- how many people the second income needs -/
def manyOf (q : Int × Int × Int × Int) : Int := if q.1 < q.2.1 ∨ q.2.2.1 = q.2.2.2 then 1 else q.1 * (q.2.2.2 - q.2.2.1) / (q.2.2.2 * (q.1 - q.2.1)) + 1
/-- the kinds behind it, of one person and m persons -/
def twoK (f f' m : Int) : List Kind := if f < f' then [(f, 1), (f', m)] else if f' < f then [(f', m), (f, 1)] else [(f, 1 + m)]
def brk4 (f f' g g' : Int) : Prop := (g = g' ∧ f ≠ f') ∨ (g ≠ g' ∧ (f > f' ∨ f * g' < f' * g))
theorem many_pos {f f' g g' : Int} (f0 : 0 ≤ f) (g0 : 0 ≤ g) (o : g ≤ g') (b : brk4 f f' g g') : 1 ≤ manyOf (f, f', g, g') := by
  unfold manyOf
  split
  · decide
  · rename_i h
    have h' : ¬ (f < f' ∨ g = g') := h
    have hx : f > f' := by
      rcases b with ⟨e, _⟩ | ⟨_, k | k⟩
      · exact absurd (.inr e) h'
      · exact k
      · have : ¬ f < f' := fun z => h' (.inl z)
        by_cases e : f = f'
        · subst e
          have := Int.mul_le_mul_of_nonneg_left o f0
          omega
        · omega
    have d := Int.mul_pos (by omega : 0 < g') (by omega : 0 < f - f')
    have n := Int.mul_nonneg f0 (by omega : 0 ≤ g' - g)
    have := Int.ediv_nonneg n (Int.le_of_lt d)
    show 1 ≤ f * (g' - g) / (g' * (f - f')) + 1
    omega
theorem many_le {f f' g g' : Int} (f0 : 0 ≤ f) (f0' : 0 ≤ f') (g0 : 0 ≤ g) (o : g ≤ g') : manyOf (f, f', g, g') ≤ f + 1 := by
  unfold manyOf
  split
  · show 1 ≤ f + 1
    omega
  · rename_i h
    have h' : ¬ (f < f' ∨ g = g') := h
    show f * (g' - g) / (g' * (f - f')) + 1 ≤ f + 1
    by_cases e : f = f'
    · subst e
      simp
      omega
    · have gp : 0 < g' := by omega
      have d : 0 < f - f' := by omega
      have le : f * (g' - g) ≤ f * (g' * (f - f')) := by
        refine Int.mul_le_mul_of_nonneg_left ?_ f0
        have : g' * 1 ≤ g' * (f - f') := Int.mul_le_mul_of_nonneg_left (by omega) (by omega)
        omega
      have := Int.ediv_le_ediv (Int.mul_pos gp d) le
      rw [Int.mul_ediv_cancel _ (by have := Int.mul_pos gp d; omega)] at this
      omega
/-- the purse shows it -/
theorem two_shows {f f' g g' : Int} (f0 : 0 ≤ f) (f0' : 0 ≤ f') (g0 : 0 ≤ g) (o : g ≤ g') (b : brk4 f f' g g') : ∃ p, 0 ≤ p ∧ p ≤ 1 + manyOf (f, f', g, g') ∧ ¬ NoX (twoK f f' (manyOf (f, f', g, g'))) (twoK g g' (manyOf (f, f', g, g'))) p (1 + manyOf (f, f', g, g')) := by
  by_cases lt : f < f'
  · have m : manyOf (f, f', g, g') = 1 := if_pos (.inl lt)
    rw [m]
    refine ⟨1, by decide, by decide, ?_⟩
    have hA : shareAns (twoK f f' 1) 1 (1 + 1) = (f * 1 * (1 + 1), (f * 1 + f' * 1) * (1 + 1)) := by
      unfold twoK
      rw [if_pos lt]
      exact share_two (by decide) (by decide) (by omega)
    by_cases e : g < g'
    · have hB : shareAns (twoK g g' 1) 1 (1 + 1) = (g * 1 * (1 + 1), (g * 1 + g' * 1) * (1 + 1)) := by
        unfold twoK
        rw [if_pos e]
        exact share_two (by decide) (by decide) (by omega)
      refine nox_at hA hB ?_
      have k : f * g' < f' * g := by
        rcases b with ⟨z, _⟩ | ⟨_, z | z⟩
        · omega
        · omega
        · exact z
      have e1 : f * 1 * (1 + 1) * ((g * 1 + g' * 1) * (1 + 1)) = 4 * (f * g) + 4 * (f * g') := by grind
      have e2 : g * 1 * (1 + 1) * ((f * 1 + f' * 1) * (1 + 1)) = 4 * (f * g) + 4 * (f' * g) := by grind
      omega
    · have eg : g = g' := by omega
      obtain ⟨k, k0, hB⟩ := share_flat1 (g := g) (n := 1 + 1) (p := 1) g0 (by decide) (by decide) (by decide)
      have hB' : shareAns (twoK g g' 1) 1 (1 + 1) = (1 * k, (1 + 1) * k) := by
        unfold twoK
        rw [if_neg (by omega), if_neg (by omega)]
        exact hB
      refine nox_at hA hB' ?_
      have h := Int.mul_lt_mul_of_pos_right lt k0
      have e1 : f * 1 * (1 + 1) * ((1 + 1) * k) = 4 * (f * k) := by grind
      have e2 : 1 * k * ((f * 1 + f' * 1) * (1 + 1)) = 2 * (f * k) + 2 * (f' * k) := by grind
      omega
  · have gt : f' < f := by
      rcases b with ⟨_, z⟩ | ⟨z, k | k⟩
      · omega
      · omega
      · by_cases e : f = f'
        · subst e
          have := Int.mul_le_mul_of_nonneg_left o f0
          omega
        · omega
    have m1 := many_pos f0 g0 o b
    by_cases e : g < g'
    · have m : manyOf (f, f', g, g') = f * (g' - g) / (g' * (f - f')) + 1 := if_neg (by rintro (z | z) <;> (dsimp only at z; omega))
      have D : 0 < g' * (f - f') := Int.mul_pos (by omega) (by omega)
      have gr : f * (g' - g) < manyOf (f, f', g, g') * (g' * (f - f')) := by
        rw [m, Int.add_mul, Int.one_mul]
        have := Int.emod_add_mul_ediv (f * (g' - g)) (g' * (f - f'))
        have := Int.emod_lt_of_pos (f * (g' - g)) D
        have c : f * (g' - g) / (g' * (f - f')) * (g' * (f - f')) = g' * (f - f') * (f * (g' - g) / (g' * (f - f'))) := Int.mul_comm ..
        omega
      generalize manyOf (f, f', g, g') = M at *
      refine ⟨M, by omega, by omega, ?_⟩
      have hA : shareAns (twoK f f' M) M (1 + M) = (f' * M * (M + 1), (f' * M + f * 1) * (M + 1)) := by
        unfold twoK
        rw [if_neg lt, if_pos gt, Int.add_comm 1 M]
        refine share_two m1 (by decide) ?_
        have := Int.mul_nonneg f0' (by omega : 0 ≤ M)
        omega
      have T : 0 < g * 1 + g' * M := by
        have := Int.mul_pos (by omega : 0 < g') (by omega : 0 < M)
        omega
      have hB : shareAns (twoK g g' M) M (1 + M) = ((g + g' * (M - 1)) * (1 + M), (g * 1 + g' * M) * (1 + M)) := by
        unfold twoK
        rw [if_pos e]
        have t : totalOf [(g, 1), (g', M)] = g * 1 + g' * M := by simp [totalOf]
        have q : peopleOf [(g, 1), (g', M)] = 1 + M := by simp [peopleOf]
        unfold shareAns
        rw [t, q, if_neg (by omega)]
        have i1 : mn (M * (1 + M)) (1 * (1 + M)) = 1 * (1 + M) := by
          have := Int.mul_le_mul_of_nonneg_right m1 (by omega : 0 ≤ 1 + M)
          unfold mn
          split <;> omega
        have i2 : mn (M * (1 + M) - 1 * (1 + M)) (M * (1 + M)) = (M - 1) * (1 + M) := by
          have e3 : M * (1 + M) - 1 * (1 + M) = (M - 1) * (1 + M) := by grind
          rw [e3]
          have := Int.mul_le_mul_of_nonneg_right (by omega : M - 1 ≤ M) (by omega : 0 ≤ 1 + M)
          unfold mn
          rw [if_neg (by omega)]
        have wv : walkS (1 + M) [(g, 1), (g', M)] (M * (1 + M)) = (g + g' * (M - 1)) * (1 + M) := by
          show g * mn (M * (1 + M)) (1 * (1 + M)) + (g' * mn (M * (1 + M) - mn (M * (1 + M)) (1 * (1 + M))) (M * (1 + M)) + 0) = _
          rw [i1, i2]
          grind
        rw [wv]
      refine nox_at hA hB ?_
      -- f' m (g + g' m) < (g + g' (m - 1)) (f' m + f)
      have key : f' * M * (g * 1 + g' * M) < (g + g' * (M - 1)) * (f' * M + f * 1) := by
        have e3 : (g + g' * (M - 1)) * (f' * M + f * 1) - f' * M * (g * 1 + g' * M) = M * (g' * (f - f')) - f * (g' - g) := by grind
        omega
      have p := Int.mul_pos (by omega : 0 < M + 1) (by omega : 0 < 1 + M)
      have h := Int.mul_lt_mul_of_pos_right key p
      have e4 : f' * M * (M + 1) * ((g * 1 + g' * M) * (1 + M)) = f' * M * (g * 1 + g' * M) * ((M + 1) * (1 + M)) := by grind
      have e5 : (g + g' * (M - 1)) * (1 + M) * ((f' * M + f * 1) * (M + 1)) = (g + g' * (M - 1)) * (f' * M + f * 1) * ((M + 1) * (1 + M)) := by grind
      omega
    · have eg : g = g' := by omega
      have m : manyOf (f, f', g, g') = 1 := if_pos (.inr eg)
      rw [m]
      refine ⟨1, by decide, by decide, ?_⟩
      have hA : shareAns (twoK f f' 1) 1 (1 + 1) = (f' * 1 * (1 + 1), (f' * 1 + f * 1) * (1 + 1)) := by
        unfold twoK
        rw [if_neg lt, if_pos gt]
        exact share_two (by decide) (by decide) (by omega)
      obtain ⟨k, k0, hB⟩ := share_flat1 (g := g) (n := 1 + 1) (p := 1) g0 (by decide) (by decide) (by decide)
      have hB' : shareAns (twoK g g' 1) 1 (1 + 1) = (1 * k, (1 + 1) * k) := by
        unfold twoK
        rw [if_neg (by omega), if_neg (by omega)]
        exact hB
      refine nox_at hA hB' ?_
      have h := Int.mul_lt_mul_of_pos_right gt k0
      have e1 : f' * 1 * (1 + 1) * ((1 + 1) * k) = 4 * (f' * k) := by grind
      have e2 : 1 * k * ((f' * 1 + f * 1) * (1 + 1)) = 2 * (f' * k) + 2 * (f * k) := by grind
      omega
/-! ### the law's own comparing -/
/-- so much of the lowest n pieces is held, each person being w pieces: s is what was found, and how many came before -/
def phStep (w n : Int) (s : Int × Int) (k : Kind) : Int × Int := (s.1 + k.1 * (if (if n - w * s.2 > 0 then n - w * s.2 else 0) < w * k.2 then (if n - w * s.2 > 0 then n - w * s.2 else 0) else w * k.2), s.2 + k.2)
theorem sum_mem_le {α : Type} {f : α → Int} : ∀ {xs : List α} {x : α}, (∀ y ∈ xs, 0 ≤ f y) → x ∈ xs → f x ≤ (xs.map f).sum
  | [], x, _, h => by cases h
  | y :: r, x, h, hx => by
    rw [List.map_cons, List.sum_cons]
    have h0 := h y List.mem_cons_self
    have rs : 0 ≤ (r.map f).sum := by
      have hr : ∀ z ∈ r, 0 ≤ f z := fun z hz => h z (List.mem_cons_of_mem _ hz)
      clear hx h h0
      induction r with
      | nil => simp
      | cons z r ih =>
        rw [List.map_cons, List.sum_cons]
        have := hr z List.mem_cons_self
        have := ih fun u hu => hr u (List.mem_cons_of_mem _ hu)
        omega
    rcases List.mem_cons.mp hx with e | m
    · rw [e]
      omega
    · have := sum_mem_le (f := f) (fun z hz => h z (List.mem_cons_of_mem _ hz)) m
      omega
/-- of nothing the law looks at one who has one -/
def lawK (ks : List Kind) : List Kind := if totalOf ks > 0 then ks else [(1, 1)]
theorem law_total {ks : List Kind} : 0 < totalOf (lawK ks) := by
  unfold lawK
  split
  · omega
  · decide
theorem share_law {ks : List Kind} (g : GoodK ks) {p w : Int} (p0 : 0 ≤ p) (pw : p ≤ w) (w1 : 1 ≤ w) :
    0 < (shareAns ks p w).2 ∧ (shareAns ks p w).1 * (totalOf (lawK ks) * w) = walkS w (lawK ks) (p * peopleOf (lawK ks)) * (shareAns ks p w).2 := by
  have gt := g.total_le
  unfold shareAns lawK
  by_cases z : totalOf ks = 0
  · rw [if_pos z, if_neg (by omega)]
    refine ⟨by show 0 < w; omega, ?_⟩
    have e : walkS w [((1 : Int), (1 : Int))] (p * peopleOf [((1 : Int), (1 : Int))]) = p := by
      show 1 * mn (p * 1) (1 * w) + 0 = p
      unfold mn
      rw [if_neg (by omega)]
      omega
    rw [e]
    show p * (1 * w) = p * w
    rw [Int.one_mul]
  · rw [if_neg z, if_pos (by omega)]
    exact ⟨Int.mul_pos (by omega) (by omega), rfl⟩
theorem nox_law {ks os : List Kind} (g : GoodK ks) (g' : GoodK os) {p w : Int} (p0 : 0 ≤ p) (pw : p ≤ w) (w1 : 1 ≤ w) :
    NoX ks os p w ↔ walkS w (lawK os) (p * peopleOf (lawK os)) * totalOf (lawK ks) ≤ walkS w (lawK ks) (p * peopleOf (lawK ks)) * totalOf (lawK os) := by
  have a := share_law g p0 pw w1
  have b := share_law g' p0 pw w1
  have t := law_total (ks := ks)
  have t' := law_total (ks := os)
  unfold NoX
  rw [frac_le b.1 a.1 (Int.mul_pos t' (by omega)) (Int.mul_pos t (by omega)) b.2 a.2]
  rw [← Int.mul_assoc, ← Int.mul_assoc]
  constructor
  · exact fun h => Int.le_of_mul_le_mul_right h (by omega)
  · exact fun h => Int.mul_le_mul_of_nonneg_right h (by omega)
theorem law_good {ks : List Kind} (g : GoodK ks) : GoodK (lawK ks) := by
  unfold lawK
  split
  · exact g
  · exact good_one (by decide) (by decide) (by decide) (by decide)
def bendsK (ks : List Kind) : List (Int × Int) := (endsK ks).map fun e => (e, peopleOf ks)
/-- what the law's own comparing answers -/
def lawE (ks os : List Kind) : Bool := (bendsK (lawK ks) ++ bendsK (lawK os)).all fun b => !decide (walkS b.2 (lawK ks) (b.1 * peopleOf (lawK ks)) * totalOf (lawK os) < walkS b.2 (lawK os) (b.1 * peopleOf (lawK os)) * totalOf (lawK ks))
theorem bends_mem {ks : List Kind} (g : GoodK ks) {b : Int × Int} (h : b ∈ bendsK ks) : 0 ≤ b.1 ∧ b.1 ≤ b.2 ∧ 1 ≤ b.2 := by
  obtain ⟨e, he, rfl⟩ := List.mem_map.mp h
  have := ends_mem g he
  exact ⟨this.1, this.2, g.people_pos⟩
theorem lawE_iff {ks os : List Kind} (g : GoodK ks) (g' : GoodK os) : lawE ks os = true ↔ Dom ks os := by
  have nx : ∀ b : Int × Int, 0 ≤ b.1 → b.1 ≤ b.2 → 1 ≤ b.2 → ((!decide (walkS b.2 (lawK ks) (b.1 * peopleOf (lawK ks)) * totalOf (lawK os) < walkS b.2 (lawK os) (b.1 * peopleOf (lawK os)) * totalOf (lawK ks))) = true ↔ NoX ks os b.1 b.2) := fun b h1 h2 h3 => by
    rw [nox_law g g' h1 h2 h3]
    simp
  unfold lawE
  rw [List.all_eq_true]
  constructor
  · intro h
    refine dom_ends g g' fun i hi => ?_
    by_cases z : totalOf ks > 0
    · have m : (peopleOf (ks.take (i + 1)), peopleOf ks) ∈ bendsK (lawK ks) := by
        unfold lawK
        rw [if_pos z]
        exact List.mem_map.mpr ⟨_, List.mem_map.mpr ⟨i, List.mem_range.mpr hi, rfl⟩, rfl⟩
      have b := bends_mem (law_good g) m
      exact (nx _ b.1 b.2.1 b.2.2).mp (h _ (List.mem_append_left _ m))
    · -- one kind of nothing
      have e : peopleOf (ks.take (i + 1)) = peopleOf ks := by
        have t0 : totalOf ks = 0 := by have := g.total_le; omega
        have l1 : ks.length = 1 := by
          have l := g.len1
          rcases Nat.lt_or_ge 1 ks.length with h2 | h2
          · exfalso
            have r := g.rises 0 ks[0] ks[1] (List.getElem?_eq_getElem _) (List.getElem?_eq_getElem _)
            have p0 := g.low ks[0] (List.getElem_mem _)
            have c1 := (g.cnt ks[1] (List.getElem_mem _)).1
            have pm := Int.mul_pos (by omega : 0 < ks[1].1) (by omega : 0 < ks[1].2)
            have sp := sum_mem_le (f := fun k : Kind => k.1 * k.2) (fun k hk => Int.mul_nonneg (g.low k hk) (g.cnt0 k hk)) (List.getElem_mem h2)
            have : (ks.map fun k => k.1 * k.2).sum = 0 := t0
            omega
          · omega
        rw [List.take_of_length_le (by omega)]
      rw [e]
      have p1 := g.people_pos
      rw [← nx (peopleOf ks, peopleOf ks) (by dsimp only; omega) (Int.le_refl _) p1]
      have full : ∀ xs : List Kind, GoodK xs → walkS (peopleOf ks) (lawK xs) (peopleOf ks * peopleOf (lawK xs)) = totalOf (lawK xs) * peopleOf ks := fun xs gx => walk_all (by omega) _ (law_good gx).cnt0 (by rw [Int.mul_comm]; exact Int.le_refl _)
      show (!decide (walkS (peopleOf ks) (lawK ks) (peopleOf ks * peopleOf (lawK ks)) * totalOf (lawK os) < walkS (peopleOf ks) (lawK os) (peopleOf ks * peopleOf (lawK os)) * totalOf (lawK ks))) = true
      rw [full ks g, full os g']
      have e : totalOf (lawK ks) * peopleOf ks * totalOf (lawK os) = totalOf (lawK os) * peopleOf ks * totalOf (lawK ks) := by grind
      rw [e]
      simp
  · intro d b hb
    have bb : 0 ≤ b.1 ∧ b.1 ≤ b.2 ∧ 1 ≤ b.2 := by
      rcases List.mem_append.mp hb with m | m
      · exact bends_mem (law_good g) m
      · exact bends_mem (law_good g') m
    exact (nx b bb.1 bb.2.1 bb.2.2).mpr (d _ _ bb.1 bb.2.1 bb.2.2)
/-! ### the purse behind rules -/
theorem two_bk {bs : List Band} {x m : Int} : Bk bs [(x, 1), (x + 1, m)] (twoK (leftOf bs x) (leftOf bs (x + 1)) m) := by
  have b : behindOf bs [(x, 1), (x + 1, m)] = addR [(leftOf bs x, 1)] (leftOf bs (x + 1)) m := rfl
  unfold twoK
  split
  · rename_i h
    refine ⟨?_, by simpa using h⟩
    rw [b]
    unfold addR
    rw [if_neg (by show ¬ leftOf bs x = _; omega)]
    exact List.Perm.refl _
  · split
    · rename_i h
      refine ⟨?_, by simpa using h⟩
      rw [b]
      unfold addR
      rw [if_neg (by show ¬ leftOf bs x = _; omega)]
      exact List.Perm.swap ..
    · refine ⟨?_, by simp⟩
      rw [b]
      unfold addR
      rw [if_pos (by show leftOf bs x = _; omega)]
theorem brk_brk4 {f f' g g' : Int} (h : brk (f, f', g, g') = true) : brk4 f f' g g' := by
  unfold brk at h
  by_cases e : g = g'
  · rw [if_pos e] at h
    exact .inl ⟨e, of_decide_eq_true h⟩
  · rw [if_neg e] at h
    refine .inr ⟨e, ?_⟩
    rcases Bool.or_eq_true_iff.mp h with k | k
    · exact .inl (of_decide_eq_true k)
    · exact .inr (of_decide_eq_true k)
/-! ### promises -/
def spPartHeld : Sp := fun vs H Q _ => ∃ (t : Addr) (ks : List Kind) (part whole : Int), vs = [.ref t, .int part, .int whole] ∧ KindsAt H t ks ∧ GoodK ks ∧ 0 ≤ part ∧ part ≤ whole ∧ 1 ≤ whole ∧ whole < 2 ^ 250 ∧
  ∀ H', Same H H' → Q (.int (walkS whole ks (part * peopleOf ks))) H'
def spEndsL : Sp := fun vs H Q _ => ∃ (t : Addr) (ks : List Kind), vs = [.ref t] ∧ KindsAt H t ks ∧ GoodK ks ∧ ∀ p H', Same H H' → H p = none → LRowsAt pairT H' p (bendsK ks) → Q (.ref p) H'
def spEvenKinds : Sp := fun vs H Q _ => ∃ (t u : Addr) (ks os : List Kind), vs = [.ref t, .ref u] ∧ KindsAt H t ks ∧ GoodK ks ∧ KindsAt H u os ∧ GoodK os ∧ ∀ H', Same H H' → Q (.bl (lawE ks os)) H'
/-! ### a comprehension in a comprehension -/
def lcScope : Stmt → Scope
  | .Assign _ (.ListComp _ _ s _) _ => s
  | _ => default
/-! ### the law's fold, kind by kind -/
def phFold (w n : Int) (ks : List Kind) : Int × Int := ks.foldl (phStep w n) (0, 0)
theorem walk_bits {ks : List Kind} (g : GoodK ks) {e P : Int} (e0 : 0 ≤ e) (w1 : 1 ≤ P) (wb : P.natAbs < 2 ^ 250) : (walkS P ks (e * peopleOf ks)).natAbs < 2 ^ (365 + 250) := by
  have gt := g.total_le
  have gp := g.people_le
  have bT : (totalOf ks).natAbs < 2 ^ 365 := nat_lt2 gt.1 (by omega)
  exact wide_le (walk_nonneg (by omega) (Int.mul_nonneg e0 gp.1) g.both) (walk_le fun k hk => g.low k hk) (wide_lt bT wb)
/-! ### what shows it -/
def spMany (K : PySem.W.Frag) : Sp := fun vs H Q _ => ∃ (p : Addr) (q : Quad), vs = [.ref p] ∧ SqT K H p (quadT q) ∧ brk q = true ∧ (0 ≤ q.1 ∧ q.1.natAbs < 2 ^ 120) ∧ (0 ≤ q.2.1 ∧ q.2.1.natAbs < 2 ^ 120) ∧ (0 ≤ q.2.2.1 ∧ q.2.2.1.natAbs < 2 ^ 120) ∧ (q.2.2.1 ≤ q.2.2.2 ∧ q.2.2.2.natAbs < 2 ^ 120) ∧ Q (.int (manyOf q)) H
def spContrary (C CP : Addr) : Sp := fun vs H Q _ => ∃ (r : Addr) (v : V) (bs cs : List Band), vs = [.ref r, v] ∧ RuleAt C H r bs ∧ Other C H v cs ∧
  ∀ H' xs, Same H H' → Spots bs cs xs → (firstBrk bs cs xs = none → Q .non H') ∧ ∀ x, firstBrk bs cs xs = some x → ∀ P, PurseAt CP H' P [(x, 1), (x + 1, manyOf (quad bs cs x))] → Q (.ref P) H'
theorem kinds_two {H : Hp} {b c t : Addr} {x y : Kind} (hb : H b = none) (hc : (upd H b (.tup (kindT x))) c = none) (ht : (upd (upd H b (.tup (kindT x))) c (.tup (kindT y))) t = none) :
    Same H (upd (upd (upd H b (.tup (kindT x))) c (.tup (kindT y))) t (.tup [.ref b, .ref c])) ∧ KindsAt (upd (upd (upd H b (.tup (kindT x))) c (.tup (kindT y))) t (.tup [.ref b, .ref c])) t [x, y] := by
  have s1 := same_new (o := .tup (kindT x)) hb
  have s2 := same_new (o := .tup (kindT y)) hc
  have s3 := same_new (o := .tup [.ref b, .ref c]) ht
  refine ⟨s1.trans (s2.trans s3), [b, c], upd_same, rfl, fun i r k h1 h2 => ?_⟩
  match i, h1, h2 with
  | 0, h1, h2 => cases h1; cases h2; exact s3 _ _ (s2 _ _ upd_same)
  | 1, h1, h2 => cases h1; cases h2; exact s3 _ _ upd_same
  | i + 2, h1, h2 => cases h2
theorem two_good {x m : Int} (x0 : 0 ≤ x) (x1 : x ≤ 10 ^ 30) (m1 : 1 ≤ m) (m2 : m ≤ 10 ^ 72) : GoodK [(x, 1), (x + 1, m)] := by
  refine goodK_of (by simp) (by simp) ?_ (by simp; omega) ?_ ?_
  · simp
    omega
  · simp
    omega
  · simp
    omega
/-- what is left of the two incomes -/
theorem Good.quad_facts {bs cs : List Band} (g : Good bs) (g' : Good cs) (up : firstTurn cs = none) {x : Int} (x0 : 0 ≤ x) (x1 : x ≤ 10 ^ 29) : (0 ≤ (quad bs cs x).1 ∧ (quad bs cs x).1.natAbs < 2 ^ 120) ∧ (0 ≤ (quad bs cs x).2.1 ∧ (quad bs cs x).2.1.natAbs < 2 ^ 120) ∧ (0 ≤ (quad bs cs x).2.2.1 ∧ (quad bs cs x).2.2.1.natAbs < 2 ^ 120) ∧ ((quad bs cs x).2.2.1 ≤ (quad bs cs x).2.2.2 ∧ (quad bs cs x).2.2.2.natAbs < 2 ^ 120) := by
  obtain ⟨b1, b2, b3, b4⟩ := g.quad_bits g' x0 x1
  exact ⟨⟨g.left_nonneg x0, b1⟩, ⟨g.left_nonneg (by omega), b2⟩, ⟨g'.left_nonneg x0, b3⟩, ⟨g'.le_up up x0 (by omega), b4⟩⟩
def spBehindL : Sp := fun vs H Q _ => ∃ (t u : Addr) (bs : List Band) (ks : List Kind), vs = [.ref t, .ref u] ∧ BandsAt H t bs ∧ Loose bs ∧ KindsAt H u ks ∧ GoodK ks ∧ ∀ p H' ms, Same H H' → KindsAt H' p ms → Bk bs ks ms → Q (.ref p) H'
def spShown (CP : Addr) : Sp := fun vs H Q _ => ∃ (t u r : Addr) (bs cs : List Band) (ks : List Kind), vs = [.ref t, .ref u, .ref r] ∧ BandsAt H t bs ∧ Good bs ∧ BandsAt H u cs ∧ Good cs ∧ PurseAt CP H r ks ∧ Incomes ks ∧ peopleOf ks ≤ 10 ^ 72 ∧
  ∀ H' ms ns, Same H H' → Bk bs ks ms → Bk cs ks ns → GoodK ms → GoodK ns → Q (.bl (!lawE ms ns)) H'
end Ev

set_option Elab.async false
set_option linter.all false
set_option maxRecDepth 100000
set_option maxHeartbeats 4000000
namespace Ev
open PySem PySem.Spec PyProof.Rows L2 TL
/-! ### stretches without a break -/
abbrev Win : Type := Int × Option Int
def winT (w : Win) : List V := [.int w.1, optV w.2]
/-- what was found, and where one has begun -/
abbrev WinS : Type := List Win × Option Int
def winStep (b : Int → Bool) (s : WinS) (x : Int) : WinS := if b x then (match s.2 with | some o => (s.1 ++ [(o, some x)], none) | none => s) else (s.1, some (s.2.getD x))
def winsOf (b : Int → Bool) (xs : List Int) : WinS := xs.foldl (winStep b) ([], none)
def winOf (b : Int → Bool) (xs : List Int) : List Win := match (winsOf b xs).2 with
  | some o => (winsOf b xs).1 ++ [(o, none)]
  | none => (winsOf b xs).1
theorem wins_snoc (b : Int → Bool) (xs : List Int) (x : Int) : winsOf b (xs ++ [x]) = winStep b (winsOf b xs) x := by
  unfold winsOf
  rw [List.foldl_append]
  rfl
def spWindows (C : Addr) : Sp := fun vs H Q _ => ∃ (r : Addr) (v : V) (bs cs : List Band), vs = [.ref r, v] ∧ RuleAt C H r bs ∧ Other C H v cs ∧
  ∀ p H' xs, Same H H' → Spots bs cs xs → RowsAt winT H' p (winOf (fun x => brk (quad bs cs x)) xs) → Q (.ref p) H'
/-! ### by recursion -/
def winL (b : Int → Bool) : List Int → Option Int → List Win
  | [], none => []
  | [], some o => [(o, none)]
  | x :: r, bg => if b x then (match bg with | some o => (o, some x) :: winL b r none | none => winL b r none) else winL b r (some (bg.getD x))
/-- the spots, by the starts -/
def spotL : List Int → List Int
  | [] => []
  | [a] => [a]
  | a :: c :: r => (if c - 1 > a then [a, c - 1] else [a]) ++ spotL (c :: r)
/-- the law's walk by the starts -/
def dueF (b : Int → Bool) (a : Int) (o : Int) : List Win := if b a then (if a > o then [(o, some a)] else []) else []
def dueL (b : Int → Bool) : List Int → Int → List Win
  | [], _ => []
  | [a], o => if b a then (if a > o then [(o, some a)] else []) else [(o, none)]
  | a :: c :: r, o =>
    let f1 := if c - 1 > a ∧ b a = true then (if a > o then [(o, some a)] else []) else []
    let o1 := if c - 1 > a ∧ b a = true then c - 1 else o
    let f2 := if b (c - 1) = true then (if c - 1 > o1 then [(o1, some (c - 1))] else []) else []
    let o2 := if b (c - 1) = true then c else o1
    f1 ++ f2 ++ dueL b (c :: r) o2
end Ev

set_option Elab.async false
set_option linter.all false
set_option maxRecDepth 100000
set_option maxHeartbeats 4000000
namespace Ev
open PySem PySem.Spec PyProof.Rows L2 TL
/-! ### income by income -/
/-- within a part without a start the line goes on -/
theorem Good.part {bs : List Band} (g : Good bs) {a c : Int} (a0 : 0 ≤ a) (h : ∀ b ∈ bs, b.1 ≤ a ∨ c ≤ b.1) : ∃ s : Int, ∀ y, a ≤ y → y < c → leftOf bs y = leftOf bs a + s * (y - a) := by
  obtain ⟨j, b, hb, h0, h1⟩ := g.find a0
  have nx : ∀ d, bs[j + 1]? = some d → c ≤ d.1 := fun d hd => by
    rcases h d (List.mem_of_getElem? hd) with k | k
    · have := h1 d hd
      omega
    · exact k
  refine ⟨b.2.2, fun y y0 y1 => ?_⟩
  rw [leftOf_at g hb (by omega) fun d hd => by have := nx d hd; omega, leftOf_at g hb h0 h1]
  unfold left1
  have e : y - b.1 = (a - b.1) + (y - a) := by omega
  rw [e, Int.mul_add]
  omega
theorem brk_part {bs cs : List Band} (g : Good bs) (g' : Good cs) {a c : Int} (a0 : 0 ≤ a) (h : ∀ b ∈ bs ++ cs, b.1 ≤ a ∨ c ≤ b.1) {x : Int} (x0 : a ≤ x) (x1 : x + 1 < c) : brk (quad bs cs x) = brk (quad bs cs a) := by
  obtain ⟨s, hs⟩ := Good.part g a0 fun b hb => h b (List.mem_append_left _ hb)
  obtain ⟨t, ht⟩ := Good.part g' a0 fun b hb => h b (List.mem_append_right _ hb)
  unfold quad
  rw [hs x x0 (by omega), hs (x + 1) (by omega) x1, hs (a + 1) (by omega) (by omega), ht x x0 (by omega), ht (x + 1) (by omega) x1, ht (a + 1) (by omega) (by omega)]
  generalize leftOf bs a = F
  generalize leftOf cs a = G
  have e1 : x + 1 - a = (x - a) + 1 := by omega
  have e2 : a + 1 - a = 1 := by omega
  rw [e1, e2]
  generalize x - a = d
  unfold brk
  have k1 : (G + t * d = G + t * (d + 1)) ↔ (G = G + t * 1) := by rw [Int.mul_add]; omega
  have k2 : (F + s * d ≠ F + s * (d + 1)) ↔ (F ≠ F + s * 1) := by rw [Int.mul_add]; omega
  have k3 : (F + s * d > F + s * (d + 1)) ↔ (F > F + s * 1) := by rw [Int.mul_add]; omega
  have k4 : ((F + s * d) * (G + t * (d + 1)) < (F + s * (d + 1)) * (G + t * d)) ↔ (F * (G + t * 1) < (F + s * 1) * G) := by
    have p : (F + s * d) * (G + t * (d + 1)) - (F + s * (d + 1)) * (G + t * d) = F * (G + t * 1) - (F + s * 1) * G := by grind
    omega
  simp only [k1, k2, k3, k4]
def incStep (b : Int → Bool) (s : List Win × Int) (x : Int) : List Win × Int := if b x then ((if x > s.2 then s.1 ++ [(s.2, some x)] else s.1), x + 1) else s
def incN (b : Int → Bool) : Nat → List Win × Int
  | 0 => ([], 0)
  | n + 1 => incStep b (incN b n) n
def closedW (ws : List Win) : List Win := ws.filter fun w => match w.2 with
  | some e => decide (e ≤ 120)
  | none => false
/-- where all is as at the beginning of its part -/
structure Parted (b : Int → Bool) (ss : List Int) : Prop where
  mid : ∀ (i : Nat) a c, ss[i]? = some a → ss[i + 1]? = some c → ∀ x, a ≤ x → x < c - 1 → b x = b a
  last : ∀ a, ss.getLast? = some a → ∀ x, a ≤ x → b x = b a
theorem parted {bs cs : List Band} (g : Good bs) (g' : Good cs) {ss : List Int} (s : StartsOf bs cs ss) : Parted (fun x => brk (quad bs cs x)) ss := by
  have nn : ∀ x ∈ ss, 0 ≤ x := fun x hx => by
    obtain ⟨b, hb, e⟩ := (s.mem x).mp hx
    rcases List.mem_append.mp hb with m | m
    · have := g.tame.nn b m; omega
    · have := g'.tame.nn b m; omega
  refine ⟨fun i a c ha hc x x0 x1 => ?_, fun a ha x x0 => ?_⟩
  · refine brk_part g g' (nn a (List.mem_of_getElem? ha)) (c := c) (fun b hb => ?_) x0 (by omega)
    have m := (s.mem b.1).mpr ⟨b, hb, rfl⟩
    obtain ⟨j, hj, e⟩ := List.mem_iff_getElem.mp m
    obtain ⟨hi, ea⟩ := List.getElem?_eq_some_iff.mp ha
    obtain ⟨hi', ec⟩ := List.getElem?_eq_some_iff.mp hc
    have p := List.pairwise_iff_getElem.mp s.asc
    by_cases k : j ≤ i
    · rcases Nat.lt_or_eq_of_le k with k | k
      · have := p j i hj hi k
        left
        omega
      · subst k
        left
        omega
    · by_cases k2 : j = i + 1
      · subst k2
        right
        omega
      · have := p (i + 1) j hi' hj (by omega)
        right
        omega
  · refine brk_part g g' (nn a (List.mem_of_getLast? ha)) (c := x + 2) (fun b hb => ?_) x0 (by omega)
    have m := (s.mem b.1).mpr ⟨b, hb, rfl⟩
    left
    obtain ⟨j, hj, e⟩ := List.mem_iff_getElem.mp m
    have p := List.pairwise_iff_getElem.mp s.asc
    rw [List.getLast?_eq_getElem?] at ha
    obtain ⟨hi, ea⟩ := List.getElem?_eq_some_iff.mp ha
    by_cases k : j = ss.length - 1
    · subst k
      omega
    · have := p j (ss.length - 1) hj hi (by omega)
      omega
/-- what the law's two walks answer -/
def spDue : Sp := fun vs H Q _ => ∃ (t u : Addr) (bs cs : List Band), vs = [.ref t, .ref u] ∧ BandsAt H t bs ∧ Tame bs ∧ BandsAt H u cs ∧ Tame cs ∧
  ∀ p H' ss, Same H H' → StartsOf bs cs ss → RowsAt winT H' p (dueL (fun x => brk (quad bs cs x)) ss 0) → Q (.ref p) H'
def spByInc : Sp := fun vs H Q _ => ∃ (t u : Addr) (bs cs : List Band), vs = [.ref t, .ref u, .int 120] ∧ BandsAt H t bs ∧ Tame bs ∧ BandsAt H u cs ∧ Tame cs ∧
  ∀ p H', Same H H' → LRowsAt winT H' p (incN (fun x => brk (quad bs cs x)) 121).1 → Q (.ref p) H'
/-- the law's walk, also behind the last start -/
def dueE (b : Int → Bool) : List Int → Option Int → List Win
  | [], none => []
  | [], some o => [(o, none)]
  | _ :: _, none => []
  | a :: r, some o => dueL b (a :: r) o
def lastUp (last : Option Int) (a : Int) : Bool := match last with
  | none => true
  | some l => decide (l > a)
def dMid (b : Int → Bool) (a : Int) (last : Option Int) (o : Int) : List Win × Option Int :=
  if lastUp last a = true ∧ b a = true then ((if a > o then [(o, some a)] else []), last) else ([], some o)
def dEnd (b : Int → Bool) (last : Option Int) (s : List Win × Option Int) : List Win × Option Int :=
  match last with
  | none => s
  | some l => if b l = true then (s.1 ++ (if l > s.2.getD 0 then [(s.2.getD 0, some l)] else []), some (l + 1)) else s
end Ev

set_option Elab.async false
set_option linter.all false
set_option maxRecDepth 100000
set_option maxHeartbeats 4000000
namespace Ev
open PySem PySem.Spec PyProof.Rows L2 TL
/-! ### windows as data -/
def optD : Option Int → PyData
  | none => .none
  | some i => .int i
def winD (w : Win) : PyData := .tuple [.int w.1, optD w.2]
def winsD (ws : List Win) : PyData := .tuple (ws.map winD)
def winsL (ws : List Win) : PyData := .list (ws.map winD)
theorem dp_optV {K : PySem.W.Frag} {H : Hp} (o : Option Int) : Dp K H (optV o) (optD o) := by
  cases o with
  | none => exact .non
  | some i => exact .int i
theorem dp_win {K : PySem.W.Frag} {H : Hp} {r : Addr} {w : Win} (h : H r = some (.tup (winT w))) : Dp K H (.ref r) (winD w) := .tup (SqT.of h) (.cons (.int _) (.cons (dp_optV _) .nil))
end Ev

set_option Elab.async false
set_option linter.all false
set_option maxRecDepth 100000
set_option maxHeartbeats 4000000
namespace Ev
open PySem PySem.Spec PyProof.Rows L2 TL
/-! ### a def called with its last default -/
def DDef (P : Program) (w : World) (K : PySem.W.Frag) (mg : Str → Option Value) (base : Heap) (x : Str) (ps : List Str) (dv : V) (k : Nat) (sp : Sp) : Prop :=
  ∃ f fd ds, mg x = some (.ref f) ∧ PySem.W.keepIn K (.ref f) = true ∧ Vals [dv] ds ∧ Binds K fd ps ds ∧ FnOk P w K mg base CX0 k f fd ps sp
def tDDef (dv : V) (sp : Sp) (t : TA) : TE := fun σ H Q => t σ H fun vs H1 => sp (vs ++ [dv]) H1 Q E0
section
variable {X : Cx} {x : Str} {ps : List Str} {k : Nat} {sp : Sp} {p pos : Pos} {e : Expr} {es : List Expr} {t : TA} {dv : V}
end
end Ev

set_option Elab.async false
set_option linter.all false
set_option maxRecDepth 100000
set_option maxHeartbeats 4000000
namespace Ev
open PySem PySem.Spec PyProof.Rows L2 TL
def bTxt (b : Bool) : Str := if b then "True" else "False"
/-- the purse of the first break is one that shows it -/
theorem first_shows {bs cs : List Band} (g : Good bs) (g' : Good cs) (up : firstTurn cs = none) {xs : List Int} (sp : Spots bs cs xs) {x : Int} (h : firstBrk bs cs xs = some x) :
    0 ≤ x ∧ x ≤ 10 ^ 29 ∧ 1 ≤ manyOf (quad bs cs x) ∧ manyOf (quad bs cs x) ≤ 2 ^ 121 ∧ ∀ ms ns, Bk bs [(x, 1), (x + 1, manyOf (quad bs cs x))] ms → Bk cs [(x, 1), (x + 1, manyOf (quad bs cs x))] ns → GoodK ms → GoodK ns → lawE ms ns = false := by
  have xm : x ∈ xs := List.mem_of_find?_eq_some h
  have xb : brk (quad bs cs x) = true := by simpa using List.find?_some h
  have bd := spot_bounds g.tame g'.tame ((sp.mem x).mp xm)
  obtain ⟨a0, a1, a2, a3⟩ := g.quad_facts g' up bd.1 bd.2
  have b4 := brk_brk4 xb
  have m1 : 1 ≤ manyOf (quad bs cs x) := many_pos a0.1 a2.1 a3.1 b4
  have m2 := many_le a0.1 a1.1 a2.1 a3.1
  have m2' : manyOf (quad bs cs x) ≤ 2 ^ 121 := by
    have := a0.2
    have l : (quad bs cs x).1 < 2 ^ 120 := by omega
    have m2 : manyOf (quad bs cs x) ≤ (quad bs cs x).1 + 1 := m2
    generalize manyOf (quad bs cs x) = M at *
    generalize (quad bs cs x).1 = F at *
    omega
  refine ⟨bd.1, bd.2, m1, m2', fun ms ns hm hn gm gn => ?_⟩
  obtain rfl := (two_bk (bs := bs) (x := x) (m := manyOf (quad bs cs x))).uniq hm
  obtain rfl := (two_bk (bs := cs) (x := x) (m := manyOf (quad bs cs x))).uniq hn
  obtain ⟨p, p0, p1, nx⟩ := two_shows a0.1 a1.1 a2.1 a3.1 b4
  rw [Bool.eq_false_iff]
  intro h
  exact nx ((lawE_iff gm gn).mp h p (1 + manyOf (quad bs cs x)) p0 p1 (by clear nx; omega))
end Ev

set_option Elab.async false
set_option linter.all false
set_option maxRecDepth 100000
set_option maxHeartbeats 4000000
namespace Ev
open PySem PySem.Spec PyProof.Rows L2 TL
/-! ### promises of curves -/
def spEndsOf : Sp := fun vs H Q _ => ∃ (t : Addr) (ks : List Kind), vs = [.ref t] ∧ KindsAt H t ks ∧ GoodK ks ∧ ∀ p H', Same H H' → H p = none → H' p = some (.lst ((endsK ks).map V.int)) → Q (.ref p) H'
def spTotalOf : Sp := fun vs H Q _ => ∃ (t : Addr) (ks : List Kind), vs = [.ref t] ∧ KindsAt H t ks ∧ GoodK ks ∧ ∀ H', Same H H' → Q (.int (totalOf ks)) H'
def spFirstX : Sp := fun vs H Q _ => ∃ (t u : Addr) (ks os : List Kind), vs = [.ref t, .ref u] ∧ KindsAt H t ks ∧ GoodK ks ∧ KindsAt H u os ∧ GoodK os ∧
  ∀ H', Same H H' → (crossOf ks os = none → Q .non H') ∧ ∀ e, crossOf ks os = some e → ∀ p, H p = none → H' p = some (.tup (pairT (e, peopleOf ks))) → Q (.ref p) H'
def spCrossing (C : Addr) : Sp := fun vs H Q _ => ∃ (r r2 : Addr) (ks os : List Kind), vs = [.ref r, .ref r2] ∧ PurseAt C H r ks ∧ PurseAt C H r2 os ∧
  ∀ H', Same H H' → (crossOf ks os = none → Q .non H') ∧ ∀ e, crossOf ks os = some e → ∀ p, H p = none → H' p = some (.tup (pairT (e, peopleOf ks))) → Q (.ref p) H'
def spIsEven (C : Addr) : Sp := fun vs H Q _ => ∃ (r r2 : Addr) (ks os : List Kind), vs = [.ref r, .ref r2] ∧ PurseAt C H r ks ∧ PurseAt C H r2 os ∧ ∀ H', Same H H' → Q (.bl (crossOf ks os).isNone) H'
def wordOf (a b : Bool) : Str := if a && b then "same" else if a then "more" else if b then "less" else "neither"
def spOrder (C : Addr) : Sp := fun vs H Q _ => ∃ (r r2 : Addr) (ks os : List Kind), vs = [.ref r, .ref r2] ∧ PurseAt C H r ks ∧ PurseAt C H r2 os ∧ ∀ H', Same H H' → Q (.str (wordOf (crossOf ks os).isNone (crossOf os ks).isNone)) H'
theorem ends_len (ks : List Kind) : (endsK ks).length = ks.length := by simp [endsK]
theorem ends_at (ks : List Kind) {i : Nat} (h : i < ks.length) : (endsK ks)[i]? = some (peopleOf (ks.take (i + 1))) := by simp [endsK, h]
theorem ends_last {ks : List Kind} (g : GoodK ks) : (endsK ks).getLast? = some (peopleOf ks) := by
  have l := g.len1
  rw [List.getLast?_eq_getElem?, ends_len, ends_at ks (by omega)]
  rw [show ks.length - 1 + 1 = ks.length by omega, List.take_length]
theorem share_bits {ks : List Kind} (g : GoodK ks) {p w : Int} (p0 : 0 ≤ p) (pw : p ≤ w) (w1 : 1 ≤ w) (wb : w < 2 ^ 250) : (shareAns ks p w).1.natAbs < 2 ^ 620 ∧ (shareAns ks p w).2.natAbs < 2 ^ 620 := by
  have gt := g.total_le
  have bw : w.natAbs < 2 ^ 250 := nat_lt2 (by omega) wb
  have bp : p.natAbs < 2 ^ 250 := nat_lt2 p0 (by omega)
  have bT : (totalOf ks).natAbs < 2 ^ 365 := nat_lt2 gt.1 (by omega)
  unfold shareAns
  split
  · exact ⟨Nat.lt_trans bp (by decide), Nat.lt_trans bw (by decide)⟩
  · exact ⟨Nat.lt_trans (walk_bits g p0 w1 bw) (by decide), Nat.lt_trans (wide_lt bT bw) (by decide)⟩
def spIsInteger (K : PySem.W.Frag) : Sp := fun vs H Q _ => ∃ v : V, vs = [v] ∧
  ((∃ i, v = .int i ∧ Q (.bl true) H) ∨ (∃ b, v = .bl b ∧ Q (.bl false) H) ∨ ∃ T, TyX K H v (.type T) ∧ PySem.W.kitOne K (.type T) (.type "int") = some false ∧ Q (.bl false) H)
end Ev

set_option Elab.async false
set_option linter.all false
set_option maxRecDepth 100000
set_option maxHeartbeats 4000000
namespace Ev
open PySem PySem.Spec PyProof.Rows L2 TL
/-! ### lists of texts as data -/
def strsD (xs : List Str) : PyData := .list (xs.map .str)
theorem dp_strsA {K : PySem.W.Frag} {H : Hp} : ∀ xs : List Str, DpAll K H (xs.map V.str) (xs.map .str)
  | [] => .nil
  | x :: r => .cons (.str x) (dp_strsA r)
theorem dp_strs {K : PySem.W.Frag} {H : Hp} {a : Addr} {xs : List Str} (h : SqL K H a (xs.map V.str)) : Dp K H (.ref a) (strsD xs) := .lst h (dp_strsA xs)
theorem ok_of_lt {x : Str} (h : ∀ c ∈ tl x, c < 128) : PyData.strOk x = true := by
  unfold PyData.strOk
  rw [← Array.all_toList, List.all_eq_true]
  intro c hc
  exact decide_eq_true (Nat.lt_trans (h c hc) (by decide))
theorem lay_strs : ∀ xs : List Str, (∀ x ∈ xs, ∀ c ∈ tl x, c < 128) → PyData.canLayAll0 (xs.map .str) = true
  | [], _ => rfl
  | x :: r, h => by
    rw [List.map_cons, PyData.canLayAll0, lay_strs r fun y hy => h y (List.mem_cons_of_mem _ hy), Bool.and_true]
    exact ok_of_lt (h x List.mem_cons_self)
theorem depth_strs : ∀ xs : List Str, PyData.depthAll (xs.map .str) ≤ 3
  | [] => by simp [PyData.depthAll]
  | x :: r => by
    have := depth_strs r
    simp only [List.map_cons, PyData.depthAll, PyData.depth]
    omega
theorem shaped_strs {xs : List Str} (h : ∀ x ∈ xs, ∀ c ∈ tl x, c < 128) : SeqAt.shaped (strsD xs) = true := by
  unfold SeqAt.shaped strsD
  rw [Bool.and_eq_true]
  refine ⟨lay_strs xs h, decide_eq_true ?_⟩
  have := depth_strs xs
  simp only [PyData.depth]
  omega
theorem eqv_strs {xs : List Str} : PyData.eqv (strsD xs) (strsD xs) = true := by
  unfold strsD
  rw [PyData.eqv]
  induction xs with
  | nil => rfl
  | cons x r ih =>
    rw [List.map_cons, PyData.eqvAll, ih]
    simp [PyData.eqv]
theorem lines_lt (bs : List Band) : ∀ x ∈ bs.map lineOf, ∀ c ∈ tl x, c < 128 := fun x hx => by
  obtain ⟨b, _, rfl⟩ := List.mem_map.mp hx
  exact line_lt b
theorem linesK_lt (bs : List Kind) : ∀ x ∈ bs.map lineK, ∀ c ∈ tl x, c < 128 := fun x hx => by
  obtain ⟨b, _, rfl⟩ := List.mem_map.mp hx
  exact lineK_lt b
end Ev

set_option Elab.async false
set_option linter.all false
set_option maxRecDepth 100000
set_option maxHeartbeats 4000000
namespace Ev
open PySem PySem.Spec PyProof.Rows L2 TL
/-! ### the drawing list of the later laws: what the great one leaves, the state, the count of draws -/
def Wl (n : Nat) (H : Hp) (a : Addr) : Prop := ∃ x y z : Int, H a = some (.lst [.int x, .int y, .int z]) ∧ 0 ≤ x ∧ 0 ≤ y ∧ y < 2147483648 ∧ 0 ≤ z ∧ z ≤ n
theorem Wl.same {n : Nat} {H H' : Hp} {a : Addr} (v : Wl n H a) (s : Same H H') : Wl n H' a := by
  obtain ⟨x, y, z, h, r⟩ := v
  exact ⟨x, y, z, s _ _ h, r⟩
theorem Wl.mono {n m : Nat} {H : Hp} {a : Addr} (v : Wl n H a) (h : n ≤ m) : Wl m H a := by
  obtain ⟨x, y, z, e, h1, h2, h3, h4, h5⟩ := v
  exact ⟨x, y, z, e, h1, h2, h3, h4, by omega⟩
theorem Wl.lst {n : Nat} {H : Hp} {a : Addr} (v : Wl n H a) : ∃ xs, H a = some (.lst xs) := by
  obtain ⟨x, y, z, h, _⟩ := v
  exact ⟨_, h⟩
theorem Wl.ne {n : Nat} {H : Hp} {a p : Addr} (v : Wl n H a) (h : H p = none) : p ≠ a := by
  obtain ⟨x, y, z, e, _⟩ := v
  exact fun q => by rw [q, e] at h; cases h
theorem Wl.new {n : Nat} {H : Hp} {a p : Addr} {o : HO} (v : Wl n H a) (h : H p = none) : Wl n (upd H p o) a := v.same (same_new h)
theorem Wl.neT {n : Nat} {H : Hp} {a t : Addr} {xs : List V} (v : Wl n H a) (h : H t = some (.tup xs)) : t ≠ a := by
  obtain ⟨x, y, z, e, _⟩ := v
  exact ne_of h e (by intro q; cases q)
theorem Wl.neI {n : Nat} {H : Hp} {a t : Addr} {C dx : Addr} {fs : List (Str × V)} (v : Wl n H a) (h : H t = some (.ins C dx fs)) : t ≠ a := by
  obtain ⟨x, y, z, e, _⟩ := v
  exact ne_of h e (by intro q; cases q)
theorem Wl.put {n : Nat} {H : Hp} {a p : Addr} {o : HO} (v : Wl n H a) (h : a ≠ p) : Wl n (upd H p o) a := by
  obtain ⟨x, y, z, e, r⟩ := v
  exact ⟨x, y, z, (upd_ne h).trans e, r⟩
theorem BandsAt.fw {H H' : Hp} {t a : Addr} {bs : List Band} {n : Nat} (h : BandsAt H t bs) (v : Wl n H a) (f : Fx a H H') : BandsAt H' t bs := by
  obtain ⟨rs, h1, h2, h3⟩ := h
  exact ⟨rs, f _ _ (v.neT h1) h1, h2, fun i r b hr hb => f _ _ (v.neT (h3 i r b hr hb)) (h3 i r b hr hb)⟩
theorem RuleAt.fw {C : Addr} {H H' : Hp} {r a : Addr} {bs : List Band} {n : Nat} (h : RuleAt C H r bs) (v : Wl n H a) (f : Fx a H H') : RuleAt C H' r bs := by
  obtain ⟨dx, t, h1, h2, g⟩ := h
  exact ⟨dx, t, f _ _ (v.neI h1) h1, h2.fw v f, g⟩
theorem RowsAt.fw {α : Type} {g : α → List V} {H H' : Hp} {t a : Addr} {xs : List α} {n : Nat} (h : RowsAt g H t xs) (v : Wl n H a) (f : Fx a H H') : RowsAt g H' t xs := by
  obtain ⟨rs, h1, h2, h3⟩ := h
  exact ⟨rs, f _ _ (v.neT h1) h1, h2, fun i r b hr hb => f _ _ (v.neT (h3 i r b hr hb)) (h3 i r b hr hb)⟩
theorem PurseAt.fw {C : Addr} {H H' : Hp} {r a : Addr} {ks : List Kind} {n : Nat} (h : PurseAt C H r ks) (v : Wl n H a) (f : Fx a H H') : PurseAt C H' r ks := by
  obtain ⟨dx, t, h1, h2, g⟩ := h
  exact ⟨dx, t, f _ _ (v.neI h1) h1, h2.fw v f, g⟩
/-! ### promises of the drawing defs -/
def spGwell (K : PySem.W.Frag) : Sp := fun vs H Q _ => ∃ (sc : Addr) (ns : List Int) (k : Int), vs = [.ref sc, .int k] ∧ SqL K H sc (ns.map V.int) ∧ ns.length ≤ 63 ∧ 0 ≤ k ∧ k ≤ 100 ∧
  ∀ (p : Addr) (H' : Hp), H p = none → Same H H' → Wl 0 H' p → Q (.ref p) H'
def spDraw : Sp := fun vs H Q _ => ∃ (a : Addr) (many : Int) (n : Nat), vs = [.ref a, .int many] ∧ 1 ≤ many ∧ many ≤ 10 ^ 33 ∧ Wl n H a ∧ n ≤ 1000000000 ∧
  ∀ (r : Int) (H' : Hp), 0 ≤ r → r < many → Fx a H H' → Wl (n + 1) H' a → Q (.int r) H'
theorem divF {i j : Int} (h : 1 ≤ j) (h2 : j ≤ 10 ^ 33) : CDivP i j := ⟨by omega, PyProof.noPylong_of_log2 (Nat.lt_of_lt_of_le (PySem.Flt.log2_lt_of (by decide) (nat_lt2 (b := 120) (by omega) (by omega))) (by decide))⟩
def spSome (K : PySem.W.Frag) : Sp := fun vs H Q _ => ∃ (a m : Addr) (xs : List V) (n : Nat), vs = [.ref a, .ref m] ∧ m ≠ a ∧ (SqL K H m xs ∨ SqT K H m xs) ∧ 1 ≤ xs.length ∧ xs.length ≤ 1000000 ∧ Wl n H a ∧ n ≤ 1000000000 ∧
  ∀ (v : V) (H' : Hp), v ∈ xs → Fx a H H' → Wl (n + 1) H' a → Q v H'
def spFar : Sp := fun vs H Q _ => ∃ (a : Addr) (top : Int) (n : Nat), vs = [.ref a, .int top] ∧ 0 ≤ top ∧ top ≤ 10 ^ 41 ∧ Wl n H a ∧ n ≤ 900000000 ∧
  ∀ (r : Int) (H' : Hp), 0 ≤ r → r ≤ top → Fx a H H' → Wl (n + 13) H' a → Q (.int r) H'
end Ev

set_option Elab.async false
set_option linter.all false
set_option maxRecDepth 100000
set_option maxHeartbeats 4000000
namespace Ev
open PySem PySem.Spec PyProof.Rows L2
/-! ### try: body, except (x1, x2, x3) as n: suite, where each exception of the body is of one of them -/
def wTri (K : PySem.W.Frag) (cs : List Value) (i : Nat) (ts : Addr → Value → Option Addr → TS) (D : Ends) : WX := fun cls d σ H =>
  PySem.W.exmAny K cls cs = some true ∧ ∀ a, H a = none → ts a cls d { nx := fun σ' H' => D.nx (σ'.set i none) H', rt := D.rt, bk := fun σ' H' => D.bk (σ'.set i none) H', ct := fun σ' H' => D.ct (σ'.set i none) H' } (σ.set i (some (.ref a))) H
section
variable {X : Cx} {x1 x2 x3 n : Str} {c1 c2 c3 : Value} {i kk : Nat} {body suite : List Stmt} {b₀ : Stmt} {p1 p2 p3 tp pos pos' : Pos} {tb : WX → TS} {ts : Addr → Value → Option Addr → TS}
end
end Ev

set_option Elab.async false
set_option linter.all false
set_option maxRecDepth 100000
set_option maxHeartbeats 4000000
namespace Ev
open PySem PySem.Spec PyProof.Rows L2 L2H
theorem _root_.L2H.RoomH.units {k : Nat} {A : Around} (r : L2H.RoomH k A) : A.units + 64 < cLine := by
  have := r.un
  omega
/-! ### a def that is called within an except suite: its promise may speak of the caught exception p -/
structure FnE (P : Program) (w : World) (K : PySem.W.Frag) (mg : Str → Option Value) (base : Heap) (k : Nat) (f : Addr) (fd : FuncData) (ps : List Str) (sp : Addr × Obj → Sp) : Prop where
  len : ∀ p vs H Q E, sp p vs H Q E → vs.length = ps.length
  run : ∀ (A : Around) (outer : List Env) (s : Shared) (H : Hp) (args : Args) (us : List Value) (vs : List V) (Q : VK) (E : XK) (p : Addr × Obj), RoomH k A → PinOk outer H s p → Env0 P w K mg base A outer s H → BindsTo s fd args (ps.zip us) → Vals vs us → sp p vs H Q E →
    codeAny (model P w) A (.call (.ref f) args) (CR CX0 outer P w H s Q E) s
def EDef (P : Program) (w : World) (K : PySem.W.Frag) (mg : Str → Option Value) (base : Heap) (x : Str) (ps : List Str) (k : Nat) (sp : Addr × Obj → Sp) : Prop :=
  ∃ f fd, mg x = some (.ref f) ∧ PySem.W.keepIn K (.ref f) = true ∧ Binds K fd ps [] ∧ FnE P w K mg base k f fd ps sp
section
variable {P : Program} {w : World} {K : PySem.W.Frag} {mg : Str → Option Value} {base : Heap}
end
section
variable {X : Cx} {x : Str} {ps : List Str} {k : Nat} {sp : Addr × Obj → Sp} {p pos : Pos} {e : Expr} {es : List Expr} {t : TA}
end
/-! ### isinstance of the caught exception; its dict at dd, if it has one -/
structure ExcD (K : PySem.W.Frag) (D : Addr) : Prop where
  cl : (PySem.W.clsIn K D).isSome = true
  ga : PySem.W.findIn K (.ref D) "__getattribute__" = some (some (.builtin "BaseException.__getattribute__"))
  gt : PySem.W.findIn K (.ref D) "__getattr__" = some none
  sb : PySem.W.subIn K (.ref D) (.type "BaseException") = some true
  at_ : PySem.W.findIn K (.ref D) "__class__" = some (some (.builtin "object.__class__"))
  nn : PySem.W.specialIn K (.builtin "object.__class__") "__get__" = some (some (.builtin "getset_descriptor.__get__"))
  tk : PySem.W.takesIn K (.builtin "object.__class__") = some true
  mo : PySem.W.mroIn K D (.type "object") = some true
def excDB (K : PySem.W.Frag) (D : Addr) : Bool :=
  (PySem.W.clsIn K D).isSome && (decide (PySem.W.findIn K (.ref D) "__getattribute__" = some (some (.builtin "BaseException.__getattribute__"))) && (decide (PySem.W.findIn K (.ref D) "__getattr__" = some none) && (decide (PySem.W.subIn K (.ref D) (.type "BaseException") = some true) &&
    (decide (PySem.W.findIn K (.ref D) "__class__" = some (some (.builtin "object.__class__"))) && (decide (PySem.W.specialIn K (.builtin "object.__class__") "__get__" = some (some (.builtin "getset_descriptor.__get__"))) && (decide (PySem.W.takesIn K (.builtin "object.__class__") = some true) && decide (PySem.W.mroIn K D (.type "object") = some true)))))))
theorem excDB_ok {K : PySem.W.Frag} {D : Addr} (h : excDB K D = true) : ExcD K D := by
  unfold excDB at h
  simp only [Bool.and_eq_true, decide_eq_true_eq] at h
  obtain ⟨h1, h2, h3, h4, h5, h6, h7, h8⟩ := h
  exact ⟨h1, h2, h3, h4, h5, h6, h7, h8⟩
/-- the exception p is of the class D, its dict (d) stands as told -/
def IsExc (D : Addr) (d : Option Addr) (p : Addr × Obj) : Prop := Zc (.ref D) d p.2 ∧ ∃ vs, p.2.data = .fields vs
def DictAt (d : Option Addr) (H : Hp) : Prop := ∀ dd, d = some dd → ∃ fs, H dd = some (.xd fs)
def rIsX (K : PySem.W.Frag) (D : Addr) (d : Option Addr) (a : Addr) : List V → Hp → VK → Prop := fun xs H Q => ∃ (c : V) (cv : Value) (b : Bool), xs = [.ref a, c] ∧ (∀ u, RelV c u → u = cv) ∧ PySem.W.kitOne K (.ref D) cv = some b ∧ DictAt d H ∧ Q (.bl b) H
/-! ### e.f in the suite -/
end Ev

set_option Elab.async false
set_option linter.all false
set_option maxRecDepth 100000
set_option maxHeartbeats 4000000
namespace Ev
open PySem PySem.Spec PyProof.Rows L2 L2H
/-! ### list.count of flat things -/
def rCntF (K : PySem.W.Frag) : V → List V → Hp → VK → Prop := fun x xs H Q => ∃ (p : Addr) (ys : List V) (y : V), x = .ref p ∧ xs = [y] ∧ SqL K H p ys ∧ flatV y = true ∧ ys.all flatV = true ∧ Q (.int ((ys.countP fun z => eqV z y : Nat) : Int)) H
/-! ### data stays -/
mutual
theorem dp_keep {K : PySem.W.Frag} {H H' : Hp} (s : Same H H') : ∀ {v : V} {d : PyData}, Dp K H v d → Dp K H' v d
  | _, _, .non => .non
  | _, _, .bl b => .bl b
  | _, _, .int i => .int i
  | _, _, .str x => .str x
  | _, _, .lst h a => .lst (s.seq h) (dpAll_keep s a)
  | _, _, .tup h a => .tup (same_t s h) (dpAll_keep s a)
theorem dpAll_keep {K : PySem.W.Frag} {H H' : Hp} (s : Same H H') : ∀ {vs : List V} {ds : List PyData}, DpAll K H vs ds → DpAll K H' vs ds
  | _, _, .nil => .nil
  | _, _, .cons h a => .cons (dp_keep s h) (dpAll_keep s a)
end
/-! ### repr of any data -/
structure Told (d : PyData) : Prop where
  a : d.showable = true
  b : d.hasDict = false
  c : d.depth ≤ 150
  e : d.shown.length ≤ sizeLine
theorem call_repr_any {X : Cx} (h0 : Un0 X.A) (hu : X.A.units + 160 < cLine) : CallR X (.builtin "repr") (fun xs H Q => ∃ v d, xs = [v] ∧ Dp X.K H v d ∧ Told d ∧ Q (.str d.shown) H) := by
  intro pins s σ H xs us Q I r h
  obtain ⟨v, d, rfl, hd, sh, q⟩ := h
  obtain ⟨u, rfl, rv⟩ := vals1 r
  by_cases dis : isDisplay d = true
  · obtain ⟨as, hR⟩ := Dp.reads I d v u hd rv
    obtain ⟨a, rfl⟩ := isRef_of_reads hR dis
    exact repr_of_reads' hR sh.a (PyData.noDict_hsm sh.b) h0 (by have := sh.c; show X.A.units + (d.depth + 1) < cLine; omega) (fun _ _ e => e) (fun h' u tk hk => ⟨.str _, H, I.kept hk, ⟨_, rfl⟩, q⟩) sh.e
  · cases hd with
    | non =>
      obtain rfl : u = Value.none := rv
      exact PySem.P.repr_of_none ⟨.str _, H, I.tok _, ⟨_, rfl⟩, q⟩
    | bl b =>
      obtain rfl : u = Value.bool b := rv
      exact PySem.P.repr_of_bool ⟨.str _, H, I.tok _, ⟨_, rfl⟩, q⟩
    | int i =>
      obtain ⟨t, rfl⟩ := rv
      have hs := sh.a
      exact PySem.P.repr_of_int (by simpa [PyData.showable] using hs) ⟨.str _, H, I.tok _, ⟨_, rfl⟩, q⟩
    | str z =>
      obtain ⟨t, rfl⟩ := rv
      exact PySem.P.repr_of_str ⟨.str _, H, I.tok _, ⟨_, rfl⟩, q⟩ sh.e
    | lst => exact absurd rfl dis
    | tup => exact absurd rfl dis
/-! ### the errors of the package: what the written part says of them -/
def errNames : List Str := ["InvalidText", "InvalidNumber", "InvalidName", "InvalidWish", "InvalidIndex", "NotARule", "NotAPurse", "InvalidBands", "InvalidKinds", "InvalidChanges", "UnknownName", "TooMuch", "OrderTurned", "BelowNothing", "NothingToUndo", "Broken"]
def errAt (n : Nat) : Str := errNames.getD n Str.empty
/-- the field that keeps what is told -/
def errFld (n : Nat) : Str := if n = 7 ∨ n = 8 ∨ n = 9 ∨ n = 15 then "index" else "given"
def errWords : List Str := ["text", "number", "name", "wish", "index", "rule", "purse", "bands", "kinds", "changes", "unknown", "much", "turned", "below", "undo", "broken", "odd"]
def eA (K : PySem.W.Frag) (n : Nat) : Addr := He.ga K (errAt n)
def flag (n j : Nat) : Bool := decide (j = n)
/-- the answers of isinstance for the class D of number n -/
structure SortC (K : PySem.W.Frag) (D : Addr) (n : Nat) : Prop where
  x : ExcD K D
  hd : PySem.W.hasDictIn K D = true
  no : PySem.W.findIn K (.ref D) (errFld n) = some none
  own : ∀ j, j < 16 → PySem.W.kitOne K (.ref D) (.ref (eA K j)) = some (flag n j)
  b0 : PySem.W.kitOne K (.ref D) (.ref (He.ga K "WrongValue")) = some (decide (n < 10))
  b1 : PySem.W.kitOne K (.ref D) (.ref (He.ga K "WrongName")) = some (decide (n = 10))
  b2 : PySem.W.kitOne K (.ref D) (.ref (He.ga K "NoAnswer")) = some (decide (10 < n))
  t0 : PySem.W.kitOne K (.ref D) (.type "ValueError") = some (decide (n < 10))
  t1 : PySem.W.kitOne K (.ref D) (.type "LookupError") = some (decide (n = 10))
  t2 : PySem.W.kitOne K (.ref D) (.type "ArithmeticError") = some (decide (10 < n))
  ex : PySem.W.exmAny K (.ref D) [.ref (He.ga K "WrongValue"), .ref (He.ga K "WrongName"), .ref (He.ga K "NoAnswer")] = some true
def sortB (K : PySem.W.Frag) (D : Addr) (n : Nat) : Bool :=
  (excDB K D && (PySem.W.hasDictIn K D && (decide (PySem.W.findIn K (.ref D) (errFld n) = some none) && (List.range 16).all fun j => decide (PySem.W.kitOne K (.ref D) (.ref (eA K j)) = some (flag n j))))) &&
  ((decide (PySem.W.kitOne K (.ref D) (.ref (He.ga K "WrongValue")) = some (decide (n < 10))) && (decide (PySem.W.kitOne K (.ref D) (.ref (He.ga K "WrongName")) = some (decide (n = 10))) && decide (PySem.W.kitOne K (.ref D) (.ref (He.ga K "NoAnswer")) = some (decide (10 < n))))) &&
  ((decide (PySem.W.kitOne K (.ref D) (.type "ValueError") = some (decide (n < 10))) && (decide (PySem.W.kitOne K (.ref D) (.type "LookupError") = some (decide (n = 10))) && decide (PySem.W.kitOne K (.ref D) (.type "ArithmeticError") = some (decide (10 < n))))) &&
  decide (PySem.W.exmAny K (.ref D) [.ref (He.ga K "WrongValue"), .ref (He.ga K "WrongName"), .ref (He.ga K "NoAnswer")] = some true)))
theorem sortB_ok {K : PySem.W.Frag} {D : Addr} {n : Nat} (h : sortB K D n = true) : SortC K D n := by
  unfold sortB at h
  simp only [Bool.and_eq_true, decide_eq_true_eq, List.all_eq_true, List.mem_range] at h
  obtain ⟨⟨h1, h2, h3, h4⟩, ⟨h5, h6, h7⟩, ⟨h8, h9, h10⟩, h11⟩ := h
  exact ⟨excDB_ok h1, h2, h3, h4, h5, h6, h7, h8, h9, h10, h11⟩
/-- an exception class over ValueError as ExcInit wants it -/
def oexB (K : PySem.W.Frag) (C : Addr) : Bool :=
  (match K.lookup C with
  | some ⟨.type t, _, .cls cd, sl⟩ => decide (t = "type") && ((cd.hasDict && (!cd.hasDel && (match cd.mro with
    | .ref c :: bm => decide (c = C) && PySem.HandSPX.refsVE bm
    | _ => false))) && (match sl.toList with
    | [_, _, _, _, some (.builtin i), _] => decide (i = "ValueError.__new__")
    | _ => false))
  | _ => false) &&
  (decide (PySem.W.findIn K (.ref C) "__setattr__" = some (some (.builtin "object.__setattr__"))) && (decide (PySem.W.subIn K (.ref C) (.type "BaseException") = some true) && (decide (PySem.W.typeIn K (.ref C) = some (.type "type")) && PySem.W.keepIn K (.ref C))))
theorem oexB_ok {K : PySem.W.Frag} {C : Addr} (h : oexB K C = true) : OexC K C := by
  obtain ⟨h0, h⟩ := He.ba h
  obtain ⟨h1, h⟩ := He.ba h
  obtain ⟨h2, h⟩ := He.ba h
  obtain ⟨h3, h4⟩ := He.ba h
  refine ⟨?_, of_decide_eq_true h1, of_decide_eq_true h2, of_decide_eq_true h3, h4⟩
  cases q : K.lookup C with
  | none =>
    rw [q] at h0
    cases h0
  | some o =>
    obtain ⟨oc, od, dt, ⟨sl⟩⟩ := o
    rw [q] at h0
    cases oc with
    | type t =>
      cases dt with
      | cls cd =>
        obtain ⟨nm, bs, mro, ns, qn, hd, sn, sb, ab, col, del⟩ := cd
        dsimp only at h0
        simp only [Bool.and_eq_true, decide_eq_true_eq] at h0
        obtain ⟨z1, ⟨a2, a3, a4⟩, a5⟩ := h0
        subst z1
        cases mro with
        | nil => cases a4
        | cons x bm =>
          cases x with
          | ref c =>
            simp only [Bool.and_eq_true, decide_eq_true_eq] at a4
            obtain ⟨c1, c2⟩ := a4
            subst c1
            have e1 : hd = true := a2
            have e2 : del = false := by simpa using a3
            subst e1 e2
            have e3 : ∃ k0 k1 k2 k3 k5, sl = [k0, k1, k2, k3, some (.builtin "ValueError.__new__"), k5] := by
              revert a5
              split
              · intro z
                exact ⟨_, _, _, _, _, by rw [of_decide_eq_true z]⟩
              · intro z
                cases z
            obtain ⟨k0, k1, k2, k3, k5, rfl⟩ := e3
            exact ⟨nm, qn, ns, bs, bm, sn, sb, ab, col, od, k0, k1, k2, k3, k5, rfl, c2⟩
          | _ => cases a4
      | _ => cases h0
    | _ => cases h0
end Ev

set_option Elab.async false
set_option linter.all false
set_option maxRecDepth 100000
set_option maxHeartbeats 4000000
namespace Ev
open PySem PySem.Spec PyProof.Rows L2 TL
/-! ### type(x) == T -/
def tyNames : List String := ["NoneType", "bool", "int", "str", "bytes", "list", "tuple", "dict"]
theorem ty_meta {T : String} (h : T ∈ tyNames) (s : Shared) : s.TypeIs (.type T) "type" := by
  simp only [tyNames, List.mem_cons, List.not_mem_nil, or_false] at h
  rcases h with rfl | rfl | rfl | rfl | rfl | rfl | rfl | rfl
  · exact TypeEq.meta_NoneType s
  · exact TypeEq.meta_bool s
  · exact TypeEq.meta_int s
  · exact TypeEq.meta_str s
  · exact TypeEq.meta_bytes s
  · exact TypeEq.meta_list s
  · exact TypeEq.meta_tuple s
  · exact TypeEq.meta_dict s
theorem TyB.mem {K : PySem.W.Frag} {H : Hp} {x : V} {T : String} (t : TyB K H x T) : T ∈ tyNames := by
  cases t <;> decide
theorem op_eqTy {X : Cx} : OpR X (compareOp .Eq) (fun x y H Q => ∃ a b, x = .ty a ∧ y = .ty b ∧ a ∈ tyNames ∧ b ∈ tyNames ∧ Q (.bl (decide (a = b))) H) := by
  intro pins s σ H x y v u Q I rx ry h
  obtain ⟨a, b, rfl, rfl, ha, hb, q⟩ := h
  cases (show v = Value.type a from rx)
  cases (show u = Value.type b from ry)
  by_cases e : a = b
  · subst e
    exact TypeEq.eq_type_same (ty_meta ha) (fin_bl I q (by simp))
  · exact TypeEq.eq_type_other (ty_meta ha) (ty_meta hb) ((ty_beq a b).trans (decide_eq_false e)) (fin_bl I q (decide_eq_false e))
def spIsTy (K : PySem.W.Frag) (T : String) : Sp := fun vs H Q _ => ∃ (v : V) (T' : String), vs = [v] ∧ TyB K H v T' ∧ Q (.bl (decide (T' = T))) H
/-! ### the checker's table of checks -/
structure KTab (K : PySem.W.Frag) (w : World) (mg : Str → Option Value) (x : Str) (kvs : List (Str × Str)) : Prop where
  ex : ∃ (d : Addr) (es : Array DictEntry) (n : Nat), mg x = some (.ref d) ∧ KDict K w d es n ∧ ∀ q ∈ kvs, ∃ f, mg q.2 = some (.ref f) ∧ PySem.W.nsIn K d q.1 = some (some (.ref f))
def chkTab : List (Str × Str) := [("more", "accepts_more"), ("not more", "accepts_not_more"), ("even", "accepts_even"), ("uneven", "accepts_uneven"), ("gifts", "accepts_gifts")]
theorem KDict.dct {K : PySem.W.Frag} {w : World} {d f : Addr} {es : Array DictEntry} {n : Nat} {x : Str} (D : KDict K w d es n) (h : PySem.W.nsIn K d x = some (some (.ref f))) : KDct K w d x (.ref f) := ⟨es, n, _, D.at_, D.lit, h, rfl⟩
/-- accepts(claim, certificate), of a claim that names this check -/
def spAccepts (chk : Str) (sp : Sp) : Sp := fun vs H Q _ => ∃ (c : Addr) (z : Str) (xs : List V) (v : V), vs = [.ref c, v] ∧ (z, chk) ∈ chkTab ∧ H c = some (.tup (.str z :: xs)) ∧ xs.length ≤ 1000 ∧ ∀ p, H p = none → sp [.ref p, v] (upd H p (.tup xs)) Q E0
/-! ### papers -/
/-- whole numbers in a tuple, or no such thing -/
inductive Paper (K : PySem.W.Frag) (H : Hp) : V → Option (List Int) → Prop where
  | nums {a : Addr} {ns : List Int} (h : SqT K H a (ns.map V.int)) (l : ns.length ≤ 1000) : Paper K H (.ref a) (some ns)
  | mixed {a : Addr} {xs : List V} (h : SqT K H a xs) (l : xs.length ≤ 1000) (t : ∀ x ∈ xs, ∃ T, TyB K H x T) (n : ∃ x ∈ xs, ∃ T, TyB K H x T ∧ T ≠ "int") : Paper K H (.ref a) none
  | other {v : V} {T : String} (t : TyB K H v T) (n : T ≠ "tuple") : Paper K H v none
theorem tyb_same {K : PySem.W.Frag} {H H' : Hp} (s : Same H H') {x : V} {T : String} (t : TyB K H x T) : TyB K H' x T := by
  cases t with
  | non => exact .non
  | bl b => exact .bl b
  | int i => exact .int i
  | str x => exact .str x
  | byt b => exact .byt b
  | lst h => exact .lst (s.seq h)
  | tup h => exact .tup (same_t s h)
  | dK h => exact .dK (s _ _ h)
theorem un65 {k : Nat} {A : Around} (hr : Room k A) : A.units + 65 < cLine := by
  have := hr.un
  omega
theorem Paper.same {K : PySem.W.Frag} {H H' : Hp} {v : V} {o : Option (List Int)} (h : Paper K H v o) (s : Same H H') : Paper K H' v o := by
  cases h with
  | nums h l => exact .nums (same_t s h) l
  | mixed h l t n =>
    obtain ⟨x, hx, T, hT, ne⟩ := n
    refine .mixed (same_t s h) l (fun x hx => ?_) ⟨x, hx, T, tyb_same s hT, ne⟩
    obtain ⟨T, hT⟩ := t x hx
    exact ⟨T, tyb_same s hT⟩
  | other t n => exact .other (tyb_same s t) n
/-- a paper is no tuple, or a tuple whose items have types -/
theorem Paper.split {K : PySem.W.Frag} {H : Hp} {v : V} {o : Option (List Int)} (h : Paper K H v o) : (o = none ∧ ∃ T, TyB K H v T ∧ T ≠ "tuple") ∨
    ∃ (a : Addr) (xs : List V), v = .ref a ∧ SqT K H a xs ∧ xs.length ≤ 1000 ∧ (∀ x ∈ xs, ∃ T, TyB K H x T) ∧
      ((∃ ns, o = some ns ∧ xs = ns.map V.int ∧ ∀ x ∈ xs, ¬ ∃ T, TyB K H x T ∧ T ≠ "int") ∨ (o = none ∧ ∃ x ∈ xs, ∃ T, TyB K H x T ∧ T ≠ "int")) := by
  cases h with
  | @nums a ns h l =>
    refine .inr ⟨a, _, rfl, h, by rw [List.length_map]; exact l, fun x hx => ?_, .inl ⟨ns, rfl, rfl, fun x hx => ?_⟩⟩
    · obtain ⟨n, _, rfl⟩ := List.mem_map.mp hx
      exact ⟨_, .int n⟩
    · obtain ⟨n, _, rfl⟩ := List.mem_map.mp hx
      rintro ⟨T, hT, ne⟩
      cases hT
      exact ne rfl
  | mixed h l t n => exact .inr ⟨_, _, rfl, h, l, t, .inr ⟨rfl, n⟩⟩
  | other t n => exact .inl ⟨rfl, _, t, n⟩
def intsAns (o : Option (List Int)) (many : Int) : Bool := match o with
  | some ns => decide ((ns.length : Int) = many)
  | none => false
theorem ints_two {o : Option (List Int)} (h : intsAns o 2 = true) : ∃ p w, o = some [p, w] := by
  unfold intsAns at h
  split at h
  · rename_i ns
    have l : ns.length = 2 := by have := of_decide_eq_true h; omega
    match ns, l with
    | [p, w], _ => exact ⟨p, w, rfl⟩
  · cases h
def spAreInts (K : PySem.W.Frag) : Sp := fun vs H Q _ => ∃ (v : V) (many : Int) (o : Option (List Int)), vs = [v, .int many] ∧ Paper K H v o ∧ ∀ H', Same H H' → Q (.bl (intsAns o many)) H'
/-- kinds told by a text -/
def spToldK : Sp := fun vs H Q _ => ∃ ks : List Kind, vs = [.str (sheetOf ks)] ∧ GoodK ks ∧ ∀ t H', Same H H' → KindsAt H' t ks → Q (.ref t) H'
def spToldP (K : PySem.W.Frag) : Sp := fun vs H Q _ => ∃ (t : Addr) (ks ms : List Kind), vs = [.ref t] ∧ SqT K H t [.str (sheetOf ks), .str (sheetOf ms)] ∧ GoodK ks ∧ GoodK ms ∧
  ∀ (q a b : Addr) H', Same H H' → H q = none → H' q = some (.lst [.ref a, .ref b]) → KindsAt H' a ks → KindsAt H' b ms → Q (.ref q) H'
/-- lowest shares of two purses compared for a fraction -/
def isLess (ks ms : List Kind) (p w : Int) : Bool := decide ((shareAns ks p w).1 * (shareAns ms p w).2 < (shareAns ms p w).1 * (shareAns ks p w).2)
def unAns (ks ms : List Kind) (o : Option (List Int)) : Bool := match o with
  | some [p, w] => decide (0 ≤ p ∧ p ≤ w) && (decide (1 ≤ w) && isLess ks ms p w)
  | _ => false
theorem un_none {ks ms : List Kind} {o : Option (List Int)} (h : intsAns o 2 = false) : unAns ks ms o = false := by
  unfold unAns
  split
  · exact absurd h (by simp [intsAns])
  · rfl
def spUneven (K : PySem.W.Frag) : Sp := fun vs H Q _ => ∃ (t : Addr) (v : V) (ks ms : List Kind) (o : Option (List Int)), vs = [.ref t, v] ∧ SqT K H t [.str (sheetOf ks), .str (sheetOf ms)] ∧ GoodK ks ∧ GoodK ms ∧
  Paper K H v o ∧ (∀ p w, o = some [p, w] → w < 2 ^ 250) ∧ ∀ H', Same H H' → Q (.bl (unAns ks ms o)) H'
end Ev

set_option Elab.async false
set_option linter.all false
set_option maxRecDepth 100000
set_option maxHeartbeats 4000000
namespace Ev
open PySem PySem.Spec PyProof.Rows L2 TL
open PySem.W (KdxIt)
/-! ### for x in d.items(), the pairs by one name -/
section
variable {prog : Program} {w : World} {K : Type} [DecidableEq K] {knd : KeyKind prog w K} {A : Around} {E : Value → Shared → Prop} {s : Shared}
end
section
variable {P : Program} {w : World} {K : PySem.W.Frag} {d : Addr} {o : Obj} {es : Array DictEntry} {ep : Nat}
end
section
variable {X : Cx} {e : Expr} {td : TE} {apos cpos : Pos} {nm : Str} {np : Pos}
end
end Ev

set_option Elab.async false
set_option linter.all false
set_option maxRecDepth 100000
set_option maxHeartbeats 4000000
namespace Ev
open PySem PySem.Spec PyProof.Rows L2 TL
/-! ### a table of kinds -/
/-- one from the lowest and one from the highest ones nearer to each other -/
def tabK (ks : List Kind) (l h : Int) : List Kind := addR (addR (addR (addR ks l (-1)) (l + 1) 1) h (-1)) (h - 1) 1
/-- one purse's kinds, and some near it -/
def spNearKinds : Sp := fun vs H Q _ => ∃ (a t : Addr) (ks : List Kind) (n : Nat) (A B : Int), vs = [.ref a, .ref t] ∧ Vt n H a ∧ n ≤ 700000000 ∧ KindsAt H t ks ∧ GoodK ks ∧ ks.length ≤ 28 ∧ (∀ k ∈ ks, k.1 ≤ A ∧ k.2 ≤ B) ∧ A ≤ 10 ^ 35 ∧ B ≤ 10 ^ 71 ∧
  ∀ (p : Addr) (H' : Hp) (ms : List Kind), Fx a H H' → KindsAt H' p ms → GoodK ms → ms.length ≤ ks.length + 2 → (∀ k ∈ ms, k.1 ≤ 4 * A + 4 ∧ k.2 ≤ 4 * B + 4) → Vt (n + 10) H' a → Q (.ref p) H'
theorem GoodK.tall {ks : List Kind} (g : GoodK ks) {m A : Int} (m1 : 1 ≤ m) (h : ∀ k ∈ ks, k.1 ≤ A) (b : m * A ≤ 10 ^ 36) : GoodK (tallK m ks) := by
  refine goodK_of (by unfold tallK; rw [List.length_map]; exact g.len1) (by unfold tallK; rw [List.length_map]; exact g.len30) (fun k hk => ?_) ?_ (fun k hk => ?_) (fun k hk => ?_)
  · obtain ⟨x, hx, rfl⟩ := List.mem_map.mp hk
    exact Int.mul_nonneg (by omega) (g.low x hx)
  · have p := g.pair
    unfold tallK
    rw [List.map_map, List.pairwise_map]
    rw [List.pairwise_map] at p
    exact p.imp fun {a b} z => Int.mul_lt_mul_of_pos_left z (by omega)
  · obtain ⟨x, hx, rfl⟩ := List.mem_map.mp hk
    have := Int.mul_le_mul_of_nonneg_left (h x hx) (by omega : 0 ≤ m)
    show m * x.1 ≤ _
    omega
  · obtain ⟨x, hx, rfl⟩ := List.mem_map.mp hk
    exact g.cnt x hx
theorem GoodK.wide {ks : List Kind} (g : GoodK ks) {m B : Int} (m1 : 1 ≤ m) (h : ∀ k ∈ ks, k.2 ≤ B) (b : m * B ≤ 10 ^ 72) : GoodK (wideK m ks) := by
  refine g.recount (f := fun k => m * k.2) fun k hk => ⟨?_, ?_⟩
  · have := Int.mul_le_mul_of_nonneg_left (g.cnt k hk).1 (by omega : 0 ≤ m)
    omega
  · have := Int.mul_le_mul_of_nonneg_left (h k hk) (by omega : 0 ≤ m)
    omega
theorem GoodK.more {ks : List Kind} (g : GoodK ks) {m A : Int} (m1 : 0 ≤ m) (h : ∀ k ∈ ks, k.1 ≤ A) (b : A + m ≤ 10 ^ 36) : GoodK (moreK m ks) := by
  refine goodK_of (by unfold moreK; rw [List.length_map]; exact g.len1) (by unfold moreK; rw [List.length_map]; exact g.len30) (fun k hk => ?_) ?_ (fun k hk => ?_) (fun k hk => ?_)
  · obtain ⟨x, hx, rfl⟩ := List.mem_map.mp hk
    have := g.low x hx
    show 0 ≤ x.1 + m
    omega
  · have p := g.pair
    unfold moreK
    rw [List.map_map, List.pairwise_map]
    rw [List.pairwise_map] at p
    exact p.imp fun {a b} z => Int.add_lt_add_right z m
  · obtain ⟨x, hx, rfl⟩ := List.mem_map.mp hk
    have := h x hx
    show x.1 + m ≤ _
    omega
  · obtain ⟨x, hx, rfl⟩ := List.mem_map.mp hk
    exact g.cnt x hx
def tabAt (ks : List Kind) (l h : Int) : Nat → List Kind
  | 0 => ks
  | 1 => addR ks l (-1)
  | 2 => addR (addR ks l (-1)) (l + 1) 1
  | 3 => addR (addR (addR ks l (-1)) (l + 1) 1) h (-1)
  | _ => tabK ks l h
def spotAt (l h : Int) : Nat → Int × Int
  | 0 => (l, -1)
  | 1 => (l + 1, 1)
  | 2 => (h, -1)
  | _ => (h - 1, 1)
/-- the pair at a row -/
def kOf (H : Hp) : V → Int × Int
  | .ref r => match H r with
    | some (.tup [.int i, .int j]) => (i, j)
    | _ => (0, 0)
  | _ => (0, 0)
end Ev

set_option Elab.async false
set_option linter.all false
set_option maxRecDepth 100000
set_option maxHeartbeats 4000000
namespace Ev
open PySem PySem.Spec PyProof.Rows L2 TL
/-! ### the law's own order by kinds -/
def asE (ks os : List Kind) : Bool := (bendsK ks ++ bendsK os).all fun b => !decide ((shareAns ks b.1 b.2).1 * (shareAns os b.1 b.2).2 < (shareAns os b.1 b.2).1 * (shareAns ks b.1 b.2).2)
theorem asE_iff {ks os : List Kind} (g : GoodK ks) (g' : GoodK os) : asE ks os = true ↔ Dom ks os := by
  rw [dom_bends g g']
  unfold asE
  rw [List.all_eq_true]
  have one : ∀ b : Int × Int, (!decide ((shareAns ks b.1 b.2).1 * (shareAns os b.1 b.2).2 < (shareAns os b.1 b.2).1 * (shareAns ks b.1 b.2).2)) = true ↔ NoX ks os b.1 b.2 := fun b => by
    unfold NoX
    simp
  constructor
  · intro h
    exact ⟨fun e he => (one _).mp (h (e, peopleOf ks) (List.mem_append_left _ (List.mem_map_of_mem he))), fun e he => (one _).mp (h (e, peopleOf os) (List.mem_append_right _ (List.mem_map_of_mem he)))⟩
  · rintro ⟨h1, h2⟩ b hb
    refine (one b).mpr ?_
    rcases List.mem_append.mp hb with m | m
    · obtain ⟨e, he, rfl⟩ := List.mem_map.mp m
      exact h1 e he
    · obtain ⟨e, he, rfl⟩ := List.mem_map.mp m
      exact h2 e he
theorem asE_cross {ks os : List Kind} (g : GoodK ks) (g' : GoodK os) : (crossOf ks os).isNone = asE ks os := by
  have a := domB_iff g g'
  have b := asE_iff g g'
  cases h1 : (crossOf ks os).isNone <;> cases h2 : asE ks os
  · rfl
  · rw [h1] at a
    have := a.mpr (b.mp h2)
    cases this
  · rw [h2] at b
    have := b.mpr (a.mp h1)
    cases this
  · rfl
theorem none_of {ks os : List Kind} (g : GoodK ks) (g' : GoodK os) (d : Dom ks os) : (crossOf ks os).isNone = true := (domB_iff g g').mpr d
def spAsEven : Sp := fun vs H Q _ => ∃ (t u : Addr) (ks os : List Kind), vs = [.ref t, .ref u] ∧ KindsAt H t ks ∧ GoodK ks ∧ KindsAt H u os ∧ GoodK os ∧ ∀ H', Same H H' → Q (.bl (asE ks os)) H'
end Ev

set_option Elab.async false
set_option linter.all false
set_option maxRecDepth 100000
set_option maxHeartbeats 4000000
namespace Ev
open PySem PySem.Spec PyProof.Rows L2 TL
/-! ### what the checker's laws draw of purses -/
def spLess : Sp := fun vs H Q _ => ∃ (t u : Addr) (ks ms : List Kind) (p w : Int), vs = [.ref t, .ref u, .int p, .int w] ∧ KindsAt H t ks ∧ GoodK ks ∧ KindsAt H u ms ∧ GoodK ms ∧ 0 ≤ p ∧ p ≤ w ∧ 1 ≤ w ∧ w < 2 ^ 250 ∧
  ∀ H', Same H H' → Q (.bl (isLess ks ms p w)) H'
def spGkinds : Sp := fun vs H Q _ => ∃ (a : Addr) (most top many : Int) (n : Nat), vs = [.ref a, .int most, .int top, .int many] ∧ 1 ≤ most ∧ most ≤ 30 ∧ 0 ≤ top ∧ top ≤ 10 ^ 36 ∧ 1 ≤ many ∧ many ≤ 10 ^ 41 ∧ Wl n H a ∧ n ≤ 800000000 ∧
  ∀ (t : Addr) (ks : List Kind) (H' : Hp), H t = none → Fx a H H' → KindsAt H' t ks → GoodK ks → (∀ k ∈ ks, k.1 ≤ top ∧ k.2 ≤ many) → ks.length ≤ most.toNat → Wl (n + 1000) H' a → Q (.ref t) H'
/-- few kinds, of not too many people -/
def Sm (ks : List Kind) : Prop := ks.length ≤ 9 ∧ ∀ k ∈ ks, k.2 ≤ 10 ^ 42
def spTwoP : Sp := fun vs H Q _ => ∃ (a : Addr) (n : Nat), vs = [.ref a] ∧ Wl n H a ∧ n ≤ 700000000 ∧
  ∀ (p t u : Addr) (ks ms : List Kind) (H' : Hp), H p = none → Fx a H H' → H' p = some (.tup [.ref t, .ref u]) → KindsAt H' t ks → KindsAt H' u ms → GoodK ks → GoodK ms → Sm ks → Sm ms → Wl (n + 2050) H' a → Q (.ref p) H'
/-! ### a dict of whole numbers written at will -/
def setR (ns : List (Int × Int)) (k v : Int) : List (Int × Int) := addR ns k (v - getN ns k)
/-! ### judging -/
def bool2D (a b : Bool) : PyData := .list [.bool a, .bool b]
theorem dp_bool2 {K : PySem.W.Frag} {H : Hp} {p : Addr} {a b : Bool} (h : SqL K H p [.bl a, .bl b]) : Dp K H (.ref p) (bool2D a b) := .lst h (.cons (.bl a) (.cons (.bl b) .nil))
theorem show_bool2 (a b : Bool) : (bool2D a b).shown.length ≤ sizeLine := by
  cases a <;> cases b <;> decide +kernel
theorem depth_bool2 (a b : Bool) : (bool2D a b).depth ≤ 150 := by
  simp [bool2D, PyData.depth, PyData.depthAll]
def spSameB (K : PySem.W.Frag) : Sp := fun vs H Q _ => ∃ (p q : Addr) (a b : Bool), vs = [.ref p, .ref q] ∧ SqL K H p [.bl a, .bl b] ∧ SqL K H q [.bl a, .bl b] ∧ Q (.bl true) H
/-- a claim is judged as due, both ways of calling -/
def spJudged (chk : Str) (sp : Sp) : Sp := fun vs H Q _ => ∃ (c : Addr) (z : Str) (xs : List V) (v : V) (due : Bool), vs = [.ref c, v, .bl due] ∧ (z, chk) ∈ chkTab ∧ H c = some (.tup (.str z :: xs)) ∧ xs.length ≤ 1000 ∧
  (∀ H1, Same H H1 → ∀ p, H1 p = none → ∀ Q' : VK, (∀ H', Same (upd H1 p (.tup xs)) H' → Q' (.bl due) H') → sp [.ref p, v] (upd H1 p (.tup xs)) Q' E0) ∧ ∀ H', Same H H' → Q (.bl true) H'
def spDueU (K : PySem.W.Frag) : Sp := fun vs H Q _ => ∃ (t u : Addr) (v : V) (ks ms : List Kind) (o : Option (List Int)), vs = [.ref t, .ref u, v] ∧ KindsAt H t ks ∧ GoodK ks ∧ KindsAt H u ms ∧ GoodK ms ∧ Paper K H v o ∧
  (∀ p w, o = some [p, w] → w < 2 ^ 250) ∧ ∀ H', Same H H' → Q (.bl (unAns ks ms o)) H'
end Ev

set_option Elab.async false
set_option linter.all false
set_option maxRecDepth 100000
set_option maxHeartbeats 4000000
namespace Ev
open PySem PySem.Spec PyProof.Rows L2 TL
def spRightW : Sp := fun vs H Q _ => ∃ a : Addr, vs = [.ref a] ∧ Wl 0 H a ∧ ∀ H', Fx a H H' → Q (.bl true) H'
/-! ### the papers of the law k81 -/
def PapB (K : PySem.W.Frag) (H : Hp) (v : V) : Prop := ∃ o, Paper K H v o ∧ ∀ p w, o = some [p, w] → w < 2 ^ 250
def PapersIn (K : PySem.W.Frag) (H : Hp) (xs : List V) : Prop := ∀ v ∈ xs, PapB K H v
theorem PapersIn.same {K : PySem.W.Frag} {H H' : Hp} {xs : List V} (h : PapersIn K H xs) (s : Same H H') : PapersIn K H' xs := fun v hv => by
  obtain ⟨o, hP, hb⟩ := h v hv
  exact ⟨o, hP.same s, hb⟩
theorem PapersIn.snoc {K : PySem.W.Frag} {H : Hp} {xs : List V} {v : V} (h : PapersIn K H xs) (p : PapB K H v) : PapersIn K H (xs ++ [v]) := fun x hx => by
  rcases List.mem_append.mp hx with m | m
  · exact h x m
  · rw [List.mem_singleton.mp m]
    exact p
def PairsIn (H : Hp) (xs : List V) : Prop := ∀ v ∈ xs, ∃ r p w, v = V.ref r ∧ H r = some (.tup [.int p, .int w]) ∧ 0 ≤ p ∧ p ≤ w ∧ 1 ≤ w ∧ w ≤ 30 * 10 ^ 72
theorem PairsIn.same {H H' : Hp} {xs : List V} (h : PairsIn H xs) (s : Same H H') : PairsIn H' xs := fun v hv => by
  obtain ⟨r, p, w, e, hr, k⟩ := h v hv
  exact ⟨r, p, w, e, s _ _ hr, k⟩
theorem PairsIn.fw {H H' : Hp} {xs : List V} {a : Addr} {n : Nat} (h : PairsIn H xs) (v : Wl n H a) (f : Fx a H H') : PairsIn H' xs := fun x hx => by
  obtain ⟨r, p, w, e, hr, k⟩ := h x hx
  exact ⟨r, p, w, e, f _ _ (v.neT hr) hr, k⟩
theorem PairsIn.app {H : Hp} {xs ys : List V} (h : PairsIn H xs) (g : PairsIn H ys) : PairsIn H (xs ++ ys) := fun v hv => by
  rcases List.mem_append.mp hv with m | m
  · exact h v m
  · exact g v m
theorem PairsIn.snoc {H : Hp} {xs : List V} {q : Addr} {p w : Int} (h : PairsIn H xs) (hq : H q = none) (p0 : 0 ≤ p) (pw : p ≤ w) (w1 : 1 ≤ w) (wb : w ≤ 30 * 10 ^ 72) : PairsIn (upd H q (.tup [.int p, .int w])) (xs ++ [V.ref q]) :=
  (h.same (same_new hq)).app fun v hv => by
    rw [List.mem_singleton.mp hv]
    exact ⟨q, p, w, rfl, upd_same, p0, pw, w1, wb⟩
theorem PairsIn.papers {K : PySem.W.Frag} {H : Hp} {xs : List V} (h : PairsIn H xs) : PapersIn K H xs := fun v hv => by
  obtain ⟨r, p, w, rfl, hr, p0, pw, w1, wb⟩ := h v hv
  refine ⟨some [p, w], .nums (SqT.of hr) (by simp), fun p' w' e => ?_⟩
  cases e
  omega
/-- what stands while the papers are laid -/
structure All81 (K : PySem.W.Frag) (H0 H : Hp) (a l t u c : Addr) (ks ms : List Kind) (base acc : List V) (n : Nat) : Prop where
  hB : KindsAt H t ks
  hC : KindsAt H u ms
  hc : H c = some (.tup [.str "uneven", .str (sheetOf ks), .str (sheetOf ms)])
  hl : H l = some (.lst base)
  P : PapersIn K H acc
  v : Wl n H a
  fx : Fx a H0 H
section
variable {K : PySem.W.Frag} {H0 H : Hp} {a l t u c : Addr} {ks ms : List Kind} {base acc : List V} {n : Nat}
theorem All81.same {H' : Hp} (A : All81 K H0 H a l t u c ks ms base acc n) (s : Same H H') : All81 K H0 H' a l t u c ks ms base acc n :=
  ⟨A.hB.same s, A.hC.same s, s _ _ A.hc, s _ _ A.hl, A.P.same s, A.v.same s, A.fx.trans (Fx.of_same s)⟩
theorem All81.val {v : V} (A : All81 K H0 H a l t u c ks ms base acc n) (p : PapB K H v) : All81 K H0 H a l t u c ks ms base (acc ++ [v]) n := ⟨A.hB, A.hC, A.hc, A.hl, A.P.snoc p, A.v, A.fx⟩
theorem All81.new {q : Addr} {o : HO} (A : All81 K H0 H a l t u c ks ms base acc n) (hq : H q = none) (p : PapB K (upd H q o) (.ref q)) : All81 K H0 (upd H q o) a l t u c ks ms base (acc ++ [.ref q]) n := (A.same (same_new hq)).val p
theorem All81.cat {q : Addr} {zs : List V} (A : All81 K H0 H a l t u c ks ms base acc n) (hq : H q = none) (e : acc = base ++ zs) : All81 K H0 (upd H q (.lst (base ++ zs))) a q t u c ks ms (base ++ zs) (base ++ zs) n := by
  have B := A.same (same_new (o := .lst (base ++ zs)) hq)
  exact ⟨B.hB, B.hC, B.hc, upd_same, e ▸ B.P, B.v, B.fx⟩
end
end Ev

set_option Elab.async false
set_option linter.all false
set_option maxRecDepth 100000
set_option maxHeartbeats 4000000
namespace Ev
open PySem PySem.Spec PyProof.Rows L2 TL He EvH
theorem ktab_of {K : PySem.W.Frag} {w : World} {mg : Str → Option Value} {x : Str} {kvs : List (Str × Str)} (hx : mg x = some (.ref (ga K x))) (D : ∃ es n, KDict K w (ga K x) es n) (b : dctB x kvs K = true) (hm : ∀ q ∈ kvs, mg q.2 = some (.ref (ga K q.2))) : KTab K w mg x kvs := by
  obtain ⟨es, n, D⟩ := D
  exact ⟨_, es, n, hx, D, fun q hq => ⟨_, hm q hq, eqO_ok (List.all_eq_true.mp b q hq)⟩⟩
end Ev

set_option Elab.async false
set_option linter.all false
set_option maxRecDepth 100000
set_option maxHeartbeats 4000000
namespace Ev
open PySem PySem.Spec PyProof.Rows L2 TL
/-! ### papers of evenness: the empty tuple, or none -/
inductive PapE (K : PySem.W.Frag) (H : Hp) : V → Bool → Prop where
  | other {v : V} {T : String} (t : TyB K H v T) (n : T ≠ "tuple") : PapE K H v false
  | tup {a : Addr} {xs : List V} {ds : List PyData} (h : SqT K H a xs) (d : ∀ H', Same H H' → DpAll K H' xs ds) (s : SeqAt.shaped (.tuple ds) = true) : PapE K H (.ref a) ds.isEmpty
theorem PapE.same {K : PySem.W.Frag} {H H' : Hp} {v : V} {b : Bool} (h : PapE K H v b) (s : Same H H') : PapE K H' v b := by
  cases h with
  | other t n => exact .other (tyb_same s t) n
  | tup h d sh => exact .tup (same_t s h) (fun H2 s2 => d H2 (s.trans s2)) sh
def spEven (K : PySem.W.Frag) : Sp := fun vs H Q _ => ∃ (t : Addr) (v : V) (ks ms : List Kind) (e : Bool), vs = [.ref t, v] ∧ SqT K H t [.str (sheetOf ks), .str (sheetOf ms)] ∧ GoodK ks ∧ GoodK ms ∧
  PapE K H v e ∧ ∀ H', Same H H' → Q (.bl (e && asE ks ms)) H'
theorem eqv_empty (ds : List PyData) : PyData.eqv (.tuple ds) (.tuple []) = ds.isEmpty := by
  cases ds <;> simp [PyData.eqv, PyData.eqvAll]
def spFew : Sp := fun vs H Q _ => ∃ (a : Addr) (n : Nat), vs = [.ref a] ∧ Wl n H a ∧ n ≤ 800000000 ∧
  ∀ (t : Addr) (ks : List Kind) (H' : Hp), H t = none → Fx a H H' → KindsAt H' t ks → GoodK ks → (∀ k ∈ ks, k.1 ≤ 6) → peopleOf ks ≤ 5 → Wl (n + 10) H' a → Q (.ref t) H'
/-- person by person; each one 1 if nobody has anything -/
def lawH (ks : List Kind) : List Int := if 0 < (heapOf ks).sum then heapOf ks else List.replicate (heapOf ks).length 1
def spPeopleL : Sp := fun vs H Q _ => ∃ (t : Addr) (ks : List Kind), vs = [.ref t] ∧ KindsAt H t ks ∧ (∀ k ∈ ks, 0 ≤ k.2) ∧ peopleOf ks ≤ 100000 ∧
  ∀ (p : Addr) (H' : Hp), H p = none → Same H H' → H' p = some (.lst ((lawH ks).map V.int)) → Q (.ref p) H'
def spNoPaper (K : PySem.W.Frag) : Sp := fun vs H Q _ => ∃ (a : Addr) (n : Nat), vs = [.ref a] ∧ Wl n H a ∧ n ≤ 900000000 ∧ ∀ v H', PapE K H' v false → Fx a H H' → Wl (n + 1) H' a → Q v H'
theorem upd_at {H : Hp} {q : Addr} {o : HO} (_ : H q = none) : (upd H q o) q = some o := upd_same
end Ev

set_option Elab.async false
set_option linter.all false
set_option maxRecDepth 100000
set_option maxHeartbeats 4000000
namespace Ev
open PySem PySem.Spec PyProof.Rows L2 TL
/-! ### lists of objects, each with what is true of it -/
structure RefsP {α : Type} (P : Hp → Addr → α → Prop) (H : Hp) (rs : List Addr) (xs : List α) : Prop where
  len : rs.length = xs.length
  at_ : ∀ (i : Nat) r b, rs[i]? = some r → xs[i]? = some b → P H r b
section
variable {α : Type} {P : Hp → Addr → α → Prop} {H H' : Hp} {rs ss : List Addr} {xs ys : List α}
theorem RefsP.nil : RefsP P H [] [] := ⟨rfl, fun i r b h => by cases h⟩
theorem RefsP.one {r : Addr} {b : α} (h : P H r b) : RefsP P H [r] [b] := ⟨rfl, fun i r' b' h1 h2 => by
  match i, h1, h2 with
  | 0, h1, h2 => cases h1; cases h2; exact h
  | i + 1, h1, _ => cases h1⟩
theorem RefsP.to (h : RefsP P H rs xs) (f : ∀ r b, P H r b → P H' r b) : RefsP P H' rs xs := ⟨h.len, fun i r b h1 h2 => f r b (h.at_ i r b h1 h2)⟩
theorem RefsP.imp {P' : Hp → Addr → α → Prop} (h : RefsP P H rs xs) (f : ∀ r b, P H r b → P' H' r b) : RefsP P' H' rs xs := ⟨h.len, fun i r b h1 h2 => f r b (h.at_ i r b h1 h2)⟩
theorem RefsP.app (h : RefsP P H rs xs) (h' : RefsP P H ss ys) : RefsP P H (rs ++ ss) (xs ++ ys) := by
  refine ⟨by rw [List.length_append, List.length_append, h.len, h'.len], fun i r b h1 h2 => ?_⟩
  by_cases c : i < rs.length
  · rw [List.getElem?_append_left c] at h1
    rw [List.getElem?_append_left (by rw [← h.len]; exact c)] at h2
    exact h.at_ i r b h1 h2
  · rw [List.getElem?_append_right (by omega)] at h1
    rw [List.getElem?_append_right (by rw [← h.len]; omega), ← h.len] at h2
    exact h'.at_ _ r b h1 h2
theorem RefsP.snoc {r : Addr} {b : α} (h : RefsP P H rs xs) (hr : P H r b) : RefsP P H (rs ++ [r]) (xs ++ [b]) := h.app (RefsP.one hr)
theorem RefsP.get (h : RefsP P H rs xs) {i : Nat} {b : α} (hb : xs[i]? = some b) : ∃ r, rs[i]? = some r ∧ (rs.map V.ref)[i]? = some (V.ref r) ∧ P H r b := by
  have l := (List.getElem?_eq_some_iff.mp hb).1
  have e : rs[i]? = some (rs[i]'(by rw [h.len]; exact l)) := List.getElem?_eq_getElem _
  exact ⟨_, e, by rw [List.getElem?_map, e]; rfl, h.at_ i _ b e hb⟩
theorem RefsP.last (h : RefsP P H rs xs) {b : α} (hb : xs.getLast? = some b) : ∃ r, (rs.map V.ref).getLast? = some (V.ref r) ∧ P H r b := by
  rw [List.getLast?_eq_getElem?] at hb
  obtain ⟨r, h1, h2, h3⟩ := h.get hb
  refine ⟨r, ?_, h3⟩
  rw [List.getLast?_eq_getElem?, List.length_map, h.len]
  exact h2
end
/-! ### one kind alone -/
theorem share_lone {g n p w : Int} (g0 : 0 ≤ g) (hn : 1 ≤ n) (p0 : 0 ≤ p) (pw : p ≤ w) : ∃ k, 0 < k ∧ shareAns [(g, n)] p w = (p * k, w * k) := by
  have t : totalOf [(g, n)] = g * n := by simp [totalOf]
  have q : peopleOf [(g, n)] = n := by simp [peopleOf]
  unfold shareAns
  rw [t, q]
  by_cases z : g = 0
  · rw [if_pos (by rw [z, Int.zero_mul])]
    exact ⟨1, by decide, by rw [Int.mul_one, Int.mul_one]⟩
  · have gn : 0 < g * n := Int.mul_pos (by omega) (by omega)
    rw [if_neg (by omega)]
    have m : mn (p * n) (n * w) = p * n := by
      have := Int.mul_le_mul_of_nonneg_right pw (by omega : 0 ≤ n)
      have e : n * w = w * n := Int.mul_comm _ _
      unfold mn
      rw [if_neg (by omega)]
    have wv : walkS w [(g, n)] (p * n) = p * (g * n) := by
      show g * mn (p * n) (n * w) + 0 = _
      rw [m]
      grind
    rw [wv]
    exact ⟨g * n, gn, by rw [Int.mul_comm w (g * n)]⟩
theorem share_part {ks : List Kind} (g : GoodK ks) {p w : Int} (p0 : 0 ≤ p) (p1 : p ≤ w) (w1 : 1 ≤ w) : (shareAns ks p w).1 * w ≤ p * (shareAns ks p w).2 := by
  have gt := g.total_le
  have gp := g.people_pos
  unfold shareAns
  by_cases z : totalOf ks = 0
  · rw [if_pos z]
    exact Int.le_refl _
  · rw [if_neg z]
    have np : p * peopleOf ks ≤ peopleOf ks * w := by rw [Int.mul_comm]; exact Int.mul_le_mul_of_nonneg_left p1 (by omega)
    have wp := walk_part (w := w) (by omega) ks g.both g.pair (Int.mul_nonneg p0 (by omega)) np
    have wt : walkS w ks (p * peopleOf ks) ≤ p * totalOf ks := by
      refine Int.le_of_mul_le_mul_right (a := peopleOf ks) ?_ (by omega)
      have : p * totalOf ks * peopleOf ks = p * peopleOf ks * totalOf ks := Int.mul_right_comm _ _ _
      omega
    show walkS w ks (p * peopleOf ks) * w ≤ p * (totalOf ks * w)
    have m := Int.mul_le_mul_of_nonneg_right wt (by omega : 0 ≤ w)
    have e : p * (totalOf ks * w) = p * totalOf ks * w := (Int.mul_assoc _ _ _).symm
    omega
theorem dom_lone {g n : Int} (g0 : 0 ≤ g) (hn : 1 ≤ n) {ks : List Kind} (h : GoodK ks) : Dom [(g, n)] ks := fun p w p0 pw w1 => by
  obtain ⟨k, k0, e⟩ := share_lone (p := p) (w := w) g0 hn p0 pw
  have s := share_part h p0 pw w1
  rw [e]
  show (shareAns ks p w).1 * (w * k) ≤ p * k * (shareAns ks p w).2
  have m := Int.mul_le_mul_of_nonneg_right s (by omega : 0 ≤ k)
  have e1 : (shareAns ks p w).1 * (w * k) = (shareAns ks p w).1 * w * k := (Int.mul_assoc _ _ _).symm
  have e2 : p * k * (shareAns ks p w).2 = p * (shareAns ks p w).2 * k := by grind
  omega
/-! ### orders of several purses -/
def evenB (ks os : List Kind) : Bool := (crossOf ks os).isNone
def turnedD : List (Key × V) := [(.inr "same", .str "same"), (.inr "more", .str "less"), (.inr "less", .str "more"), (.inr "neither", .str "neither")]
def boolD (bs : List Bool) : PyData := .list (bs.map .bool)
theorem Fx.none_of {a p : Addr} {H H' : Hp} (f : Fx a H H') (ne : p ≠ a) (h : H' p = none) : H p = none := by
  cases e : H p with
  | none => rfl
  | some o =>
    have := f p o ne e
    rw [h] at this
    cases this
/-- at t stand kinds of a purse -/
def KGood (H : Hp) (t : Addr) (ks : List Kind) : Prop := KindsAt H t ks ∧ GoodK ks
theorem KGood.same {H H' : Hp} {t : Addr} {ks : List Kind} (h : KGood H t ks) (s : Same H H') : KGood H' t ks := ⟨h.1.same s, h.2⟩
theorem KGood.fx {H H' : Hp} {t a : Addr} {ks : List Kind} {n : Nat} (h : KGood H t ks) (v : Vt n H a) (f : Fx a H H') : KGood H' t ks := ⟨h.1.fx v f, h.2⟩
theorem KGood.put {H : Hp} {t p : Addr} {ks : List Kind} {o : HO} {ys : List V} (h : KGood H t ks) (hp : H p = some (.lst ys)) : KGood (upd H p o) t ks := ⟨RowsAt.put h.1 hp, h.2⟩
def BoolsAt (H : Hp) (r : Addr) (bs : List Bool) : Prop := H r = some (.lst (bs.map V.bl))
def gridB (kss : List (List Kind)) : List (List Bool) := kss.map fun k => kss.map fun o => evenB k o
end Ev

set_option Elab.async false
set_option linter.all false
set_option maxRecDepth 100000
set_option maxHeartbeats 4000000
namespace Ev
open PySem PySem.Spec PyProof.Rows L2 TL
/-! ### the order person by person -/
/-- the sums from the beginning on -/
def accOf (M : List Int) : List Int := (List.range M.length).map fun i => (M.take (i + 1)).sum
def spParts : Sp := fun vs H Q _ => ∃ (p : Addr) (L : List Int) (w : Nat), vs = [.ref p, .int (w : Int)] ∧ H p = some (.lst (L.map V.int)) ∧ L.length * w ≤ 100000 ∧
  ∀ (t f : Addr) (H' : Hp), H t = none → H f = none → Same H H' → H' t = some (.tup [.ref f, .int (partsOf w L).sum]) → H' f = some (.lst ((accOf (partsOf w L)).map V.int)) → Q (.ref t) H'
def aboveOf (ks os : List Kind) (n : Int) : Int := if peopleOf ks * totalOf os = 0 then walkS (peopleOf os) ks n * (peopleOf ks * peopleOf os) else if 0 < peopleOf os * totalOf ks then walkS (peopleOf os) ks n * (peopleOf ks * totalOf os) else n * (peopleOf ks * totalOf os)
def leastOf (ks os : List Kind) (n : Int) : Int := if peopleOf ks * totalOf os = 0 then n * (peopleOf os * totalOf ks) else if 0 < peopleOf os * totalOf ks then walkS (peopleOf ks) os n * (peopleOf os * totalOf ks) else walkS (peopleOf ks) os n * (peopleOf ks * peopleOf os)
def spNeverL : Sp := fun vs H Q _ => ∃ (p q : Addr) (ks os : List Kind), vs = [.ref p, .ref q] ∧ H p = some (.lst ((heapOf ks).map V.int)) ∧ H q = some (.lst ((heapOf os).map V.int)) ∧ GoodK ks ∧ GoodK os ∧ (∀ k ∈ ks, k.1 ≤ 1000) ∧ (∀ k ∈ os, k.1 ≤ 1000) ∧ peopleOf ks ≤ 200 ∧ peopleOf os ≤ 200 ∧ ∀ H', Same H H' → Q (.bl (asE ks os)) H'
end Ev

set_option Elab.async false
set_option linter.all false
set_option maxRecDepth 100000
set_option maxHeartbeats 4000000
namespace Ev
open PySem PySem.Spec PyProof.Rows L2 TL
/-! ### evenness person by person, with one for each where nobody has anything -/
def evenK (ks : List Kind) : List Kind := if 0 < totalOf ks then ks else [(1, peopleOf ks)]
/-- the row of the law: each one of the first as often as there are of the second -/
def rowL (A B : List Int) : List Int := partsOf B.length A
def spEvenBy : Sp := fun vs H Q _ => ∃ (t u : Addr) (ks os : List Kind), vs = [.ref t, .ref u] ∧ KindsAt H t ks ∧ GoodK ks ∧ KindsAt H u os ∧ GoodK os ∧ (∀ k ∈ ks, k.1 ≤ 6) ∧ (∀ k ∈ os, k.1 ≤ 6) ∧ peopleOf ks ≤ 5 ∧ peopleOf os ≤ 5 ∧ ∀ H', Same H H' → Q (.bl (asE ks os)) H'
theorem good_pair {a c b d : Int} (a0 : 0 ≤ a) (ab : a < b) (b1 : b ≤ 10 ^ 36) (c1 : 1 ≤ c) (c2 : c ≤ 10 ^ 72) (d1 : 1 ≤ d) (d2 : d ≤ 10 ^ 72) : GoodK [(a, c), (b, d)] :=
  goodK_of (by simp) (by simp) (fun k hk => by
    simp only [List.mem_cons, List.not_mem_nil, or_false] at hk
    rcases hk with e | e <;> (rw [e]; show 0 ≤ _; omega)) (by simp; exact ab) (fun k hk => by
    simp only [List.mem_cons, List.not_mem_nil, or_false] at hk
    rcases hk with e | e <;> (rw [e]; show _ ≤ (10 : Int) ^ 36; omega)) (fun k hk => by
    simp only [List.mem_cons, List.not_mem_nil, or_false] at hk
    rcases hk with e | e
    · rw [e]; exact ⟨c1, c2⟩
    · rw [e]; exact ⟨d1, d2⟩)
end Ev

set_option Elab.async false
set_option linter.all false
set_option maxRecDepth 100000
set_option maxHeartbeats 4000000
namespace Ev
open PySem PySem.Spec PyProof.Rows L2
/-! ### zip of a tuple and a list -/
def ItzM (K : PySem.W.Frag) (a b : Addr) : It :=
  ⟨fun i H => ∃ (xs ys : List V) (x y : V), SqT K H a xs ∧ SqL K H b ys ∧ xs[i]? = some x ∧ ys[i]? = some y,
    fun i H v H' => ∃ T x y, v = .ref T ∧ H T = none ∧ H' = upd H T (.tup [x, y]) ∧ (∀ xs, SqT K H a xs → xs[i]? = some x) ∧ ∀ ys, SqL K H b ys → ys[i]? = some y,
    fun i H => ∃ xs ys : List V, SqT K H a xs ∧ SqL K H b ys ∧ xs.length = i ∧ ys.length = i⟩
theorem turn_zipM {P : Program} {w : World} {K : PySem.W.Frag} {elts : List Expr} {kk : Nat} {tpos : Pos} {a b z TI TO i1 i2 : Addr} (S : ZipSep2 z TI TO i1 i2 [i1, a] [i2, b]) (n1 : a ≠ i1) (n2 : b ≠ i2) :
    Turn P w K (.Tuple elts kk tpos) (ItzM K a b) [z, TI, TO, i1, i2] z (fun i h => IsZip h z TI TO .none ∧ IsTupOf2 h TI (.ref i1) (.ref i2) ∧ (∃ x y, IsTupOf2 h TO x y) ∧ h.IsTupleIter i1 a i ∧ h.IsListIter i2 b i) where
  mem := by simp
  obj := fun i h st c hc => by
    obtain ⟨q1, q2, ⟨x, y, q3⟩, ⟨o1, e1, _, d1⟩, ⟨o2, e2, _, d2⟩⟩ := st
    simp only [List.mem_cons, List.not_mem_nil, or_false] at hc
    rcases hc with rfl | rfl | rfl | rfl | rfl
    · exact ⟨_, q1, fun v q => nomatch q⟩
    · exact ⟨_, q2, fun v q => nomatch q⟩
    · exact ⟨_, q3, fun v q => nomatch q⟩
    · exact ⟨o1, e1, fun v q => by rw [d1] at q; cases q⟩
    · exact ⟨o2, e2, fun v q => by rw [d2] at q; cases q⟩
  keep := fun i h h' st k => by
    obtain ⟨q1, q2, ⟨x, y, q3⟩, q4, q5⟩ := st
    exact ⟨k z (by simp) _ q1, k TI (by simp) _ q2, ⟨x, y, k TO (by simp) _ q3⟩, q4.at fun o q => k i1 (by simp) o q, q5.at fun o q => k i2 (by simp) o q⟩
  item := by
    intro X hP hw hK hc i pins s σ H E I hf st hg
    subst hP hw hK
    obtain ⟨q1, q2, ⟨x0, y0, q3⟩, q4, q5⟩ := st
    obtain ⟨xs, ys, x, y, hqx, hqy, hx, hy⟩ := hg
    obtain ⟨its, rv, p, _⟩ := I.tuple hqx
    obtain ⟨its2, rv2, p2, _⟩ := I.list hqy
    obtain ⟨u, hu, ru⟩ := rv.get hx
    obtain ⟨u2, hu2, ru2⟩ := rv2.get hy
    have zl : z < s.heap.objs.size := Heap.lt_size q1
    have hh := I.ok.hd hc
    have l1 := (List.getElem?_eq_some_iff.mp hu).1
    have l2 := (List.getElem?_eq_some_iff.mp hu2).1
    refine wpAny_pyNext_zipD2_item (n1 := its.toArray.size) (n2 := its2.toArray.size) S (Draws.tuple (A := X.A.in1) hh i1 a n1 its.toArray) (Draws.list (A := X.A.in1) hh i2 b n2 its2.toArray) q1 q2 q3 ⟨q4, p⟩ ⟨q5, p2.isList⟩ (by simpa using l1) (by simpa using l2) fun v1 v2 g tk b1 b2 z' TO' g1 g2 hT gs gk => ?_
    have ev1 : v1 = u := by
      have b1' : its[i]? = some v1 := by simpa using b1
      rw [hu] at b1'
      exact (Option.some.inj b1').symm
    have ev2 : v2 = u2 := by
      have b2' : its2[i]? = some v2 := by simpa using b2
      rw [hu2] at b2'
      exact (Option.some.inj b2').symm
    subst ev1 ev2
    refine ⟨_, rfl, wpAny_letOwnedTupleGo_zip (s := { s with heap := g, toks := tk }) z' fun k z'' sb => ?_⟩
    have hT2 : k.get? s.heap.objs.size = some { cls := .type "tuple", data := .seq #[v1, v2] } := (sb.2 _ (Nat.ne_of_gt zl)).trans hT
    have new : ObjOk X.prog X.w (upd H s.heap.objs.size (.tup [x, y])) k s.heap.objs.size (.tup [x, y]) :=
      ⟨by show 2 ≤ sizeLine; decide, [v1, v2], .cons ru (.cons ru2 .nil), ⟨_, hT2, rfl, _, rfl⟩⟩
    have I1 : Inv X pins σ (upd H s.heap.objs.size (.tup [x, y])) { s with heap := k, toks := tk } :=
      I.turnedNew (ch := [z, TI, TO, i1, i2]) (fun c o hb q => (sb.2 c (fun e => hb (by simp [e]))).trans (gk c o (fun e => hb (by simp [e])) (fun e => hb (by simp [e])) (fun e => hb (by simp [e])) (fun e => hb (by simp [e])) q)) hf (Nat.le_refl _) new
    have i1z : i1 ≠ z := fun e => S.zf1 (by rw [e]; simp)
    have i2z : i2 ≠ z := fun e => S.zf2 (by rw [e]; simp)
    refine ⟨.ref s.heap.objs.size, _, I1, rfl, ⟨_, x, y, rfl, I.hok.fresh (Nat.le_refl _), rfl, fun l hl => by rw [I.tuple_inj hl hqx]; exact hx, fun l hl => by rw [I.list_inj hl hqy]; exact hy⟩, ⟨z'', ?_, ⟨v1, v2, (sb.2 _ S.TOz).trans TO'⟩, g1.1.at fun o q => (sb.2 _ i1z).trans q, g2.1.at fun o q => (sb.2 _ i2z).trans q⟩, fun c hcm => ?_⟩
    · exact (sb.2 _ S.TIz).trans (gk _ _ S.TIz S.TITO S.TIi1 S.TIi2 q2)
    · obtain ⟨o, ho⟩ : ∃ o, s.heap.get? c = some o := by
        simp only [List.mem_cons, List.not_mem_nil, or_false] at hcm
        rcases hcm with rfl | rfl | rfl | rfl | rfl
        · exact ⟨_, q1⟩
        · exact ⟨_, q2⟩
        · exact ⟨_, q3⟩
        · obtain ⟨o, e, _⟩ := q4
          exact ⟨o, e⟩
        · obtain ⟨o, e, _⟩ := q5
          exact ⟨o, e⟩
      rw [upd_ne (Nat.ne_of_lt (Heap.lt_size ho))]
      exact (hf c hcm).1
  done := by
    intro X hP hw hK hc i pins s σ H E I hf st hg
    subst hP hw hK
    obtain ⟨q1, q2, ⟨x0, y0, q3⟩, q4, q5⟩ := st
    obtain ⟨xs, ys, hqx, hqy, e1, e2⟩ := hg
    obtain ⟨its, rv, p, _⟩ := I.tuple hqx
    obtain ⟨its2, rv2, p2, _⟩ := I.list hqy
    have hh := I.ok.hd hc
    have l1 := rv.length
    have l2 := rv2.length
    have m1 : its.toArray.size = i := by simp; omega
    have m2 : its2.toArray.size = i := by simp; omega
    exact wpAny_pyNext_zipD2_end (n1 := its.toArray.size) (n2 := its2.toArray.size) (i := i) S (Draws.tuple (A := X.A.in1) hh i1 a n1 its.toArray) (Draws.list (A := X.A.in1) hh i2 b n2 its2.toArray) q1 q2 q3 ⟨q4, p⟩ ⟨q5, p2.isList⟩ (by omega) (by omega) (.inl (by omega)) fun g tk gk =>
      ⟨rfl, I.turnedL (ch := [z, TI, TO, i1, i2]) (fun c o hb q => gk c o (fun e => hb (by simp [e])) (fun e => hb (by simp [e])) (fun e => hb (by simp [e])) (fun e => hb (by simp [e])) q) hf⟩
  self := fun A i s Q E st h => wpAny_pyIter_zip st.1 h
def iZipM (K : PySem.W.Frag) (ta : TA) : TI := fun σ H R => ta σ H fun vs H1 => ∃ a b xs ys, vs = [.ref a, .ref b] ∧ SqT K H1 a xs ∧ SqL K H1 b ys ∧ R (ItzM K a b) H1
theorem pi_zipM {X : Cx} {e e2 : Expr} {ta : TA} {p pos tpos : Pos} {elts : List Expr} {kk : Nat} (hg : Gl X "zip") (hm : X.mg "zip" = none) (ha : PA X [e, e2] ta)
    (hs : starEach [e, e2] X.env = (false, eval e X.env) :: starEach [e2] X.env := by rfl) (hpl : (backTo pos (starEach [e2] X.env)).any (·.1) = false := by rfl) :
    PI X (.Tuple elts kk tpos) (.Call (.Name "zip" p) [e, e2] [] pos) (iZipM X.K ta) := by
  refine ⟨fun pins s σ H R I h => Call_ (ld_blt I hg hm PyProof.Rows.boot_zip (PyProof.Rows.callWith_type1 (thn (ha.run pos pins s σ H _ I h) fun us s1 ⟨vs, H1, I1, r1, a, b, xs, ys, ex, hqx, hqy, q⟩ => ?_) hs hpl))⟩
  subst ex
  cases r1 with
  | cons r rr =>
    cases rr with
    | cons r' rr =>
      cases rr
      cases r
      cases r'
      obtain ⟨its, rv, tp, _⟩ := I1.tuple hqx
      obtain ⟨its2, rv2, lp, _⟩ := I1.list hqy
      have la : a < s1.heap.objs.size := by
        obtain ⟨o, e, _⟩ := tp
        exact Heap.lt_size e
      have lb : b < s1.heap.objs.size := lp.lt
      refine zip_begins2 (begins_tuple a its.toArray) (begins_list b its2.toArray) tp lp.isList fun h' hz hTI hTO h1 h2 hsz hk => wpAny_pyIter_zip hz ?_
      have S := zip_sep2 (N := s1.heap.objs.size) (fp1 := [a]) (fp2 := [b]) (by intro c hc; rw [List.mem_singleton.mp hc]; exact la) (by intro c hc; rw [List.mem_singleton.mp hc]; exact lb)
      refine ⟨s1.heap.objs.size + 4, [s1.heap.objs.size + 4, s1.heap.objs.size + 2, s1.heap.objs.size + 3, s1.heap.objs.size, s1.heap.objs.size + 1], _, _, H1, rfl, I1.kept (t' := s1.toks) hk, turn_zipM S (Nat.ne_of_lt la) (Nat.ne_of_lt (Nat.lt_succ_of_lt lb)), ⟨hz, hTI, ⟨_, _, hTO⟩, ⟨_, h1, rfl, rfl⟩, ⟨_, h2, rfl, rfl⟩⟩, fun c hcm => ?_, q⟩
      have hle : s1.heap.objs.size ≤ c := by
        simp only [List.mem_cons, List.not_mem_nil, or_false] at hcm
        rcases hcm with e | e | e | e | e <;> (rw [e]; first | exact Nat.le_add_right _ _ | exact Nat.le_refl _)
      exact I1.fpOk hle (I1.hok.fresh hle)
theorem walk_zipM {K : PySem.W.Frag} {a b : Addr} {xs ys : List V} (hl : xs.length = ys.length) : Walk (ItzM K a b) xs.length (fun H => SqT K H a xs ∧ SqL K H b ys) (fun i H v H' => ∃ T x y, v = .ref T ∧ H T = none ∧ H' = upd H T (.tup [x, y]) ∧ xs[i]? = some x ∧ ys[i]? = some y) where
  goes := fun i H hi h => ⟨xs, ys, xs[i], ys[i]'(by omega), h.1, h.2, by simp [hi], by simp [show i < ys.length by omega]⟩
  stops := fun H h => ⟨xs, ys, h.1, h.2, rfl, hl.symm⟩
  yields := fun i H v H' _ h ⟨T, x, y, e1, e2, e3, q1, q2⟩ => ⟨T, x, y, e1, e2, e3, q1 xs h.1, q2 ys h.2⟩
end Ev

set_option Elab.async false
set_option linter.all false
set_option maxRecDepth 100000
set_option maxHeartbeats 4000000
namespace Ev
open PySem PySem.Spec PyProof.Rows L2 TL
/-! ### gifts -/
def pos0 (x : Int) : Int := if 0 < x then x else 0
theorem pos0_nonneg (x : Int) : 0 ≤ pos0 x := by unfold pos0; split <;> omega
theorem pos0_mul {m : Int} (h : 0 ≤ m) (x : Int) : pos0 (x * m) = pos0 x * m := by
  unfold pos0
  by_cases z : m = 0
  · subst z
    simp
  · by_cases c : 0 < x
    · rw [if_pos c, if_pos (Int.mul_pos c (by omega))]
    · have : x * m ≤ 0 := Int.mul_nonpos_of_nonpos_of_nonneg (by omega) h
      rw [if_neg c, if_neg (by omega), Int.zero_mul]
/-- what the people of the first have more, place by place -/
def giftH : List Int → List Int → Int
  | a :: l, b :: m => pos0 (a - b) + giftH l m
  | _, _ => 0
theorem giftH_nonneg : ∀ l m : List Int, 0 ≤ giftH l m
  | [], _ => Int.le_refl _
  | _ :: _, [] => Int.le_refl _
  | a :: l, b :: m => by
    have := giftH_nonneg l m
    have := pos0_nonneg (a - b)
    show 0 ≤ pos0 (a - b) + giftH l m
    omega
theorem giftH_rep (a b : Int) (l m : List Int) : ∀ n : Nat, giftH (List.replicate n a ++ l) (List.replicate n b ++ m) = n * pos0 (a - b) + giftH l m
  | 0 => by simp
  | n + 1 => by
    rw [List.replicate_succ, List.replicate_succ, List.cons_append, List.cons_append]
    show pos0 (a - b) + giftH _ _ = _
    rw [giftH_rep a b l m n]
    grind
/-! ### who stands at a place -/
def amtAt (ks : List Kind) (x : Int) : Int := ((heapOf ks)[x.toNat]?).getD 0
def filtAm (o : Int) : List Kind → Int → List Int
  | [], _ => []
  | k :: r, x => (if o + k.2 > x then [k.1] else []) ++ filtAm (o + k.2) r x
theorem filtAm_snoc (x : Int) (k : Kind) : ∀ (ks : List Kind) (o : Int), filtAm o (ks ++ [k]) x = filtAm o ks x ++ (if o + peopleOf ks + k.2 > x then [k.1] else [])
  | [], o => by simp [filtAm, peopleOf]
  | j :: r, o => by
    rw [List.cons_append]
    show _ ++ filtAm (o + j.2) (r ++ [k]) x = _ ++ filtAm (o + j.2) r x ++ _
    rw [filtAm_snoc x k r, people_cons, List.append_assoc]
    congr 4
    congr 1
    omega
theorem filtAm_head {x : Int} : ∀ (ks : List Kind) (o : Int), (∀ k ∈ ks, 0 ≤ k.2) → o ≤ x → x < o + peopleOf ks → ∃ a r, filtAm o ks x = a :: r ∧ (heapOf ks)[(x - o).toNat]? = some a
  | [], o, _, h0, h1 => by
    have : peopleOf [] = 0 := rfl
    omega
  | k :: r, o, h, h0, h1 => by
    have k0 := h k List.mem_cons_self
    rw [people_cons] at h1
    by_cases c : o + k.2 > x
    · refine ⟨k.1, filtAm (o + k.2) r x, ?_, ?_⟩
      · show (if o + k.2 > x then [k.1] else []) ++ _ = _
        rw [if_pos c]
        rfl
      · rw [heap_cons, List.getElem?_append_left (by rw [List.length_replicate]; omega), List.getElem?_replicate, if_pos (by omega)]
    · obtain ⟨a, t, e1, e2⟩ := filtAm_head (x := x) r (o + k.2) (fun y hy => h y (List.mem_cons_of_mem _ hy)) (by omega) (by omega)
      refine ⟨a, t, ?_, ?_⟩
      · show (if o + k.2 > x then [k.1] else []) ++ _ = _
        rw [if_neg c, e1]
        rfl
      · rw [heap_cons, List.getElem?_append_right (by rw [List.length_replicate]; omega), List.length_replicate]
        rw [show (x - o).toNat - k.2.toNat = (x - (o + k.2)).toNat by omega]
        exact e2
theorem amtAt_head {ks : List Kind} (g : GoodK ks) {x : Int} (h0 : 0 ≤ x) (h1 : x < peopleOf ks) : ∃ r, filtAm 0 ks x = amtAt ks x :: r := by
  obtain ⟨a, r, e1, e2⟩ := filtAm_head ks 0 g.cnt0 h0 (by omega)
  refine ⟨r, ?_⟩
  rw [Int.sub_zero] at e2
  unfold amtAt
  rw [e2]
  exact e1
theorem amtAt_mem {ks : List Kind} (g : GoodK ks) {x : Int} (h0 : 0 ≤ x) (h1 : x < peopleOf ks) : amtAt ks x ∈ ks.map Prod.fst := by
  have l := heap_len (ks := ks) g.cnt0
  have il : x.toNat < (heapOf ks).length := by omega
  have e : (heapOf ks)[x.toNat]? = some (heapOf ks)[x.toNat] := List.getElem?_eq_getElem il
  have m : (heapOf ks)[x.toNat] ∈ heapOf ks := List.getElem_mem il
  unfold amtAt
  rw [e]
  unfold heapOf at m
  obtain ⟨k, hk, hm⟩ := List.mem_flatMap.mp m
  have := List.eq_of_mem_replicate hm
  exact List.mem_map.mpr ⟨k, hk, this.symm⟩
/-! ### side by side -/
def tripT (s : Int × Int × Int) : List V := [.int s.1, .int s.2.1, .int s.2.2]
def sidesOf (ks os : List Kind) : Int → List Int → List (Int × Int × Int)
  | _, [] => []
  | p, e :: r => (amtAt ks p, amtAt os p, e - p) :: sidesOf ks os e r
def lastD (p : Int) (es : List Int) : Int := es.getLast?.getD p
theorem lastD_cons (p e : Int) (r : List Int) : lastD p (e :: r) = lastD e r := by
  unfold lastD
  cases r with
  | nil => rfl
  | cons a t => rw [List.getLast?_cons_cons, List.getLast?_cons]; rfl
theorem sides_snoc (ks os : List Kind) (e : Int) : ∀ (es : List Int) (p : Int), sidesOf ks os p (es ++ [e]) = sidesOf ks os p es ++ [(amtAt ks (lastD p es), amtAt os (lastD p es), e - lastD p es)]
  | [], p => rfl
  | x :: r, p => by
    show _ :: sidesOf ks os x (r ++ [e]) = _
    rw [sides_snoc ks os e r x, lastD_cons]
    rfl
theorem sides_len (ks os : List Kind) : ∀ (es : List Int) (p : Int), (sidesOf ks os p es).length = es.length
  | [], _ => rfl
  | e :: r, p => by show (sidesOf ks os e r).length + 1 = _; rw [sides_len ks os r e]; rfl
/-- all ends of both, ascending -/
def Mixed (ks os : List Kind) (es : List Int) : Prop := es.Pairwise (· < ·) ∧ ∀ x, x ∈ es ↔ x ∈ endsK ks ∨ x ∈ endsK os
theorem ends_cons (k : Kind) (r : List Kind) : endsK (k :: r) = k.2 :: (endsK r).map (k.2 + ·) := by
  unfold endsK
  rw [List.length_cons, List.range_succ_eq_map, List.map_cons, List.map_map, List.map_map]
  refine List.cons_eq_cons.mpr ⟨?_, ?_⟩
  · simp [peopleOf]
  · refine List.map_congr_left fun i _ => ?_
    show peopleOf ((k :: r).take (i + 1 + 1)) = k.2 + peopleOf (r.take (i + 1))
    rw [List.take_succ_cons, people_cons]
theorem ends_pos {ks : List Kind} (g : GoodK ks) {e : Int} (h : e ∈ endsK ks) : 0 < e := by
  unfold endsK at h
  obtain ⟨i, hi, rfl⟩ := List.mem_map.mp h
  have il := List.mem_range.mp hi
  have x : ks[i]? = some ks[i] := List.getElem?_eq_getElem il
  rw [take_snoc x, people_snoc]
  have := (g.take_people i).1
  have := g.cnt _ (List.getElem_mem il)
  omega
theorem heap_const : ∀ (ks : List Kind), (∀ k ∈ ks, 0 ≤ k.2) → ∀ p e : Nat, p < e → (e : Int) ≤ peopleOf ks → (∀ x ∈ endsK ks, x ≤ (p : Int) ∨ (e : Int) ≤ x) → ∃ a, ∀ x, p ≤ x → x < e → (heapOf ks)[x]? = some a
  | [], _, p, e, h, h1, _ => by
    have : peopleOf [] = 0 := rfl
    omega
  | k :: r, h, p, e, hp, h1, hx => by
    have k0 := h k List.mem_cons_self
    rw [people_cons] at h1
    rw [ends_cons] at hx
    rcases hx k.2 List.mem_cons_self with c | c
    · obtain ⟨a, ha⟩ := heap_const r (fun y hy => h y (List.mem_cons_of_mem _ hy)) (p - k.2.toNat) (e - k.2.toNat) (by omega) (by omega) (fun x m => by
        rcases hx (k.2 + x) (List.mem_cons_of_mem _ (List.mem_map_of_mem m)) with d | d
        · exact .inl (by omega)
        · exact .inr (by omega))
      refine ⟨a, fun x x0 x1 => ?_⟩
      rw [heap_cons, List.getElem?_append_right (by rw [List.length_replicate]; omega), List.length_replicate]
      exact ha _ (by omega) (by omega)
    · refine ⟨k.1, fun x x0 x1 => ?_⟩
      rw [heap_cons, List.getElem?_append_left (by rw [List.length_replicate]; omega), List.getElem?_replicate, if_pos (by omega)]
theorem drop_const {l : List Int} {a : Int} : ∀ (n p : Nat), (∀ x, p ≤ x → x < p + n → l[x]? = some a) → l.drop p = List.replicate n a ++ l.drop (p + n)
  | 0, p, _ => by simp
  | n + 1, p, h => by
    have x := h p (Nat.le_refl _) (by omega)
    have il := (List.getElem?_eq_some_iff.mp x).1
    rw [List.drop_eq_getElem_cons il, drop_const n (p + 1) (fun y y0 y1 => h y (by omega) (by omega)), List.replicate_succ, List.cons_append]
    rw [show p + 1 + n = p + (n + 1) by omega]
    congr 1
    exact (List.getElem?_eq_some_iff.mp x).2
def sideSum (pl : List (Int × Int × Int)) : Int := (pl.map fun s => pos0 ((s.1 - s.2.1) * s.2.2)).sum
theorem sides_sum {ks os : List Kind} (g : GoodK ks) (g' : GoodK os) (hp : peopleOf ks = peopleOf os) : ∀ (es : List Int) (p : Nat), es.Pairwise (· < ·) → (∀ e ∈ es, (p : Int) < e ∧ e ≤ peopleOf ks) → (∀ x, (x ∈ endsK ks ∨ x ∈ endsK os) → x ≤ (p : Int) ∨ x ∈ es) → lastD p es = peopleOf ks →
    sideSum (sidesOf ks os p es) = giftH ((heapOf ks).drop p) ((heapOf os).drop p)
  | [], p, _, _, _, hl => by
    have l1 := heap_len (ks := ks) g.cnt0
    have e : (p : Int) = peopleOf ks := hl
    rw [List.drop_of_length_le (by omega)]
    rfl
  | e :: r, p, hs, hb, hx, hl => by
    obtain ⟨p1, p2⟩ := hb e List.mem_cons_self
    obtain ⟨hs1, hs2⟩ := List.pairwise_cons.mp hs
    obtain ⟨n, rfl⟩ : ∃ n : Nat, e = (p + n : Nat) := ⟨(e - p).toNat, by omega⟩
    have n0 : 0 < n := by omega
    have gap : ∀ x, (x ∈ endsK ks ∨ x ∈ endsK os) → x ≤ (p : Int) ∨ ((p + n : Nat) : Int) ≤ x := fun x m => by
      rcases hx x m with d | d
      · exact .inl d
      · rcases List.mem_cons.mp d with d | d
        · exact .inr (by omega)
        · exact .inr (Int.le_of_lt (hs1 x d))
    obtain ⟨a, ha⟩ := heap_const ks g.cnt0 p (p + n) (by omega) p2 fun x m => gap x (.inl m)
    obtain ⟨b, hb'⟩ := heap_const os g'.cnt0 p (p + n) (by omega) (by omega) fun x m => gap x (.inr m)
    rw [drop_const n p ha, drop_const n p hb', giftH_rep]
    have ih := sides_sum g g' hp r (p + n) hs2 (fun x hx => ⟨hs1 x hx, (hb x (List.mem_cons_of_mem _ hx)).2⟩) (fun x m => by
      rcases hx x m with d | d
      · exact .inl (by omega)
      · rcases List.mem_cons.mp d with d | d
        · exact .inl (by omega)
        · exact .inr d) (by rw [lastD_cons] at hl; exact hl)
    rw [← ih]
    have e1 : amtAt ks (p : Int) = a := by
      unfold amtAt
      rw [Int.toNat_natCast, ha p (Nat.le_refl _) (by omega)]
      rfl
    have e2 : amtAt os (p : Int) = b := by
      unfold amtAt
      rw [Int.toNat_natCast, hb' p (Nat.le_refl _) (by omega)]
      rfl
    show (List.map _ ((amtAt ks p, amtAt os p, ((p + n : Nat) : Int) - p) :: sidesOf ks os ((p + n : Nat) : Int) r)).sum = _
    rw [List.map_cons, List.sum_cons, e1, e2]
    have e3 : ((p + n : Nat) : Int) - (p : Int) = n := by omega
    show pos0 ((a - b) * (((p + n : Nat) : Int) - (p : Int))) + sideSum _ = _
    rw [e3, pos0_mul (by omega), Int.mul_comm]
theorem mixed_last {ks os : List Kind} (g : GoodK ks) (g' : GoodK os) (hp : peopleOf ks = peopleOf os) {es : List Int} (h : Mixed ks os es) : lastD 0 es = peopleOf ks := by
  have m : peopleOf ks ∈ es := (h.2 _).mpr (.inl (List.mem_of_getLast? (ends_last g)))
  have ub : ∀ x ∈ es, x ≤ peopleOf ks := fun x hx => by
    rcases (h.2 x).mp hx with d | d
    · exact (ends_mem g d).2
    · rw [hp]
      exact (ends_mem g' d).2
  cases e : es.getLast? with
  | none =>
    rw [List.getLast?_eq_none_iff.mp e] at m
    cases m
  | some z =>
    have zl := List.mem_of_getLast? e
    obtain ⟨t, rfl⟩ := List.getLast?_eq_some_iff.mp e
    unfold lastD
    rw [e]
    show z = _
    have z1 := ub z zl
    rcases List.mem_append.mp m with d | d
    · have := (List.pairwise_append.mp h.1).2.2 _ d z (by simp)
      omega
    · exact (List.mem_singleton.mp d).symm
theorem mixed_sum {ks os : List Kind} (g : GoodK ks) (g' : GoodK os) (hp : peopleOf ks = peopleOf os) {es : List Int} (h : Mixed ks os es) : sideSum (sidesOf ks os 0 es) = giftH (heapOf ks) (heapOf os) := by
  have := sides_sum g g' hp es 0 h.1 (fun e he => by
    rcases (h.2 e).mp he with d | d
    · exact ⟨ends_pos g d, (ends_mem g d).2⟩
    · rw [hp]
      exact ⟨ends_pos g' d, (ends_mem g' d).2⟩) (fun x m => .inr ((h.2 x).mpr m)) (mixed_last g g' hp h)
  simpa using this
end Ev

set_option Elab.async false
set_option linter.all false
set_option maxRecDepth 100000
set_option maxHeartbeats 4000000
namespace Ev
open PySem PySem.Spec PyProof.Rows L2 TL
/-! ### what each kind gives -/
def apartOf (pl : List (Int × Int × Int)) (a : Int) : List Int := (pl.filter fun s => decide (s.1 = a)).map fun s => (a - s.2.1) * s.2.2
def gsum (pl : List (Int × Int × Int)) (a : Int) : Int := ((apartOf pl a).filter fun x => decide (x > 0)).sum
def giveRow (pl : List (Int × Int × Int)) (k : Kind) : Int × Int × Int := (k.1, gsum pl k.1, gsum pl k.1 - (apartOf pl k.1).sum)
theorem filter_pos : ∀ l : List Int, (l.filter fun x => decide (x > 0)).sum = (l.map pos0).sum
  | [] => rfl
  | x :: r => by
    have ih := filter_pos r
    by_cases c : x > 0
    · rw [List.filter_cons_of_pos (by simpa using c), List.sum_cons, List.map_cons, List.sum_cons, ih]
      unfold pos0
      rw [if_pos c]
    · rw [List.filter_cons_of_neg (by simpa using c), List.map_cons, List.sum_cons, ih]
      unfold pos0
      rw [if_neg c, Int.zero_add]
theorem gsum_cons (s : Int × Int × Int) (pl : List (Int × Int × Int)) (a : Int) : gsum (s :: pl) a = (if s.1 = a then pos0 ((a - s.2.1) * s.2.2) else 0) + gsum pl a := by
  unfold gsum
  rw [filter_pos, filter_pos]
  unfold apartOf
  by_cases c : s.1 = a
  · rw [List.filter_cons_of_pos (by simpa using c), List.map_cons, List.map_cons, List.sum_cons, if_pos c]
  · rw [List.filter_cons_of_neg (by simpa using c), if_neg c, Int.zero_add]
theorem one_of {c a : Int} : ∀ {l : List Int}, l.Nodup → a ∈ l → (l.map fun x => if a = x then c else 0).sum = c
  | x :: r, hn, hm => by
    obtain ⟨h1, h2⟩ := List.nodup_cons.mp hn
    rw [List.map_cons, List.sum_cons]
    by_cases e : a = x
    · rw [if_pos e]
      have z : (r.map fun x => if a = x then c else 0).sum = 0 := by
        subst e
        have : ∀ l : List Int, a ∉ l → (l.map fun x => if a = x then c else 0).sum = 0 := fun l => by
          induction l with
          | nil => intro _; rfl
          | cons y t ih =>
            intro hy
            rw [List.map_cons, List.sum_cons, ih (fun m => hy (List.mem_cons_of_mem _ m)), if_neg (fun e => hy (by rw [e]; exact List.mem_cons_self)), Int.zero_add]
        exact this r h1
      rw [z, Int.add_zero]
    · rw [if_neg e, one_of h2 ((List.mem_cons.mp hm).resolve_left e), Int.zero_add]
theorem sum_add (f g : Int → Int) : ∀ l : List Int, (l.map fun x => f x + g x).sum = (l.map f).sum + (l.map g).sum
  | [] => rfl
  | x :: r => by
    rw [List.map_cons, List.map_cons, List.map_cons, List.sum_cons, List.sum_cons, List.sum_cons, sum_add f g r]
    omega
theorem gives_sum {l : List Int} (hn : l.Nodup) : ∀ {pl : List (Int × Int × Int)}, (∀ s ∈ pl, s.1 ∈ l) → (l.map (gsum pl)).sum = sideSum pl
  | [], _ => by
    have : ∀ l : List Int, (l.map (gsum [])).sum = 0 := fun l => by
      induction l with
      | nil => rfl
      | cons x r ih => rw [List.map_cons, List.sum_cons, ih]; rfl
    exact this l
  | s :: pl, h => by
    have e : l.map (gsum (s :: pl)) = l.map fun a => (if s.1 = a then pos0 ((s.1 - s.2.1) * s.2.2) else 0) + gsum pl a := List.map_congr_left fun a _ => by
      rw [gsum_cons]
      by_cases c : s.1 = a
      · rw [if_pos c, if_pos c, c]
      · rw [if_neg c, if_neg c]
    rw [e, sum_add, one_of hn (h s List.mem_cons_self), gives_sum hn (fun x hx => h x (List.mem_cons_of_mem _ hx))]
    unfold sideSum
    rw [List.map_cons, List.sum_cons]
/-- places that are looked at: from 0 on, each before its own end -/
theorem sides_low {ks os : List Kind} : ∀ {es : List Int} {p : Int} {s : Int × Int × Int}, es.Pairwise (· < ·) → (∀ e ∈ es, p < e) → s ∈ sidesOf ks os p es → ∃ q e, p ≤ q ∧ q < e ∧ e ∈ es ∧ s = (amtAt ks q, amtAt os q, e - q)
  | e :: r, p, s, hs, hp, h => by
    obtain ⟨h1, h2⟩ := List.pairwise_cons.mp hs
    rcases List.mem_cons.mp h with c | c
    · exact ⟨p, e, Int.le_refl _, hp e List.mem_cons_self, List.mem_cons_self, c⟩
    · obtain ⟨q, x, q0, q1, q2, q3⟩ := sides_low h2 h1 c
      have := hp e List.mem_cons_self
      exact ⟨q, x, by omega, q1, List.mem_cons_of_mem _ q2, q3⟩
structure SideOk (ks os : List Kind) (s : Int × Int × Int) : Prop where
  here : s.1 ∈ ks.map Prod.fst
  there : s.2.1 ∈ os.map Prod.fst
  many0 : 0 < s.2.2
  many1 : s.2.2 ≤ peopleOf ks
theorem mixed_side {ks os : List Kind} (g : GoodK ks) (g' : GoodK os) (hp : peopleOf ks = peopleOf os) {es : List Int} (h : Mixed ks os es) {s : Int × Int × Int} (m : s ∈ sidesOf ks os 0 es) : SideOk ks os s := by
  have hb : ∀ e ∈ es, (0 : Int) < e ∧ e ≤ peopleOf ks := fun e he => by
    rcases (h.2 e).mp he with d | d
    · exact ⟨ends_pos g d, (ends_mem g d).2⟩
    · rw [hp]
      exact ⟨ends_pos g' d, (ends_mem g' d).2⟩
  obtain ⟨q, e, q0, q1, q2, rfl⟩ := sides_low h.1 (fun e he => (hb e he).1) m
  have := hb e q2
  exact ⟨amtAt_mem g q0 (by omega), amtAt_mem g' q0 (by omega), by show 0 < e - q; omega, by show e - q ≤ peopleOf ks; omega⟩
theorem gifts_sum {ks os : List Kind} (g : GoodK ks) (g' : GoodK os) (hp : peopleOf ks = peopleOf os) {es : List Int} (h : Mixed ks os es) : ((ks.map (giveRow (sidesOf ks os 0 es))).map fun r => r.2.1).sum = giftH (heapOf ks) (heapOf os) := by
  rw [List.map_map]
  have e : (ks.map ((fun r : Int × Int × Int => r.2.1) ∘ giveRow (sidesOf ks os 0 es))) = (ks.map Prod.fst).map (gsum (sidesOf ks os 0 es)) := by
    rw [List.map_map]
    rfl
  have nd : (ks.map Prod.fst).Nodup := List.Pairwise.imp (fun h => Int.ne_of_lt h) g.pair
  rw [e, gives_sum nd (fun s hs => (mixed_side g g' hp h hs).here), mixed_sum g g' hp h]
def giftOf (ks os : List Kind) : Option Int := if peopleOf ks = peopleOf os ∧ totalOf ks = totalOf os ∧ crossOf os ks = none then some (giftH (heapOf ks) (heapOf os)) else none
theorem lastD_snoc (p e : Int) (l : List Int) : lastD p (l ++ [e]) = e := by
  unfold lastD
  rw [List.getLast?_append]
  rfl
theorem mixed_place {ks os : List Kind} (g : GoodK ks) (g' : GoodK os) (hp : peopleOf ks = peopleOf os) {es : List Int} (h : Mixed ks os es) {i : Nat} {e : Int} (he : es[i]? = some e) : 0 ≤ lastD 0 (es.take i) ∧ lastD 0 (es.take i) < e ∧ e ≤ peopleOf ks := by
  have hb : ∀ e ∈ es, (0 : Int) < e ∧ e ≤ peopleOf ks := fun e he => by
    rcases (h.2 e).mp he with d | d
    · exact ⟨ends_pos g d, (ends_mem g d).2⟩
    · rw [hp]
      exact ⟨ends_pos g' d, (ends_mem g' d).2⟩
  have em := List.mem_of_getElem? he
  have e1 := split_at he
  cases ht : (es.take i).getLast? with
  | none =>
    unfold lastD
    rw [ht]
    exact ⟨Int.le_refl _, (hb e em).1, (hb e em).2⟩
  | some z =>
    have zm := List.mem_of_getLast? ht
    have hs := h.1
    rw [e1] at hs
    have hs2 := (List.pairwise_append.mp (List.pairwise_append.mp hs).1).2.2 z zm e (by simp)
    unfold lastD
    rw [ht]
    exact ⟨Int.le_of_lt (hb z (List.mem_of_mem_take zm)).1, hs2, (hb e em).2⟩
theorem apart_snoc (l : List (Int × Int × Int)) (s : Int × Int × Int) (a : Int) : apartOf (l ++ [s]) a = apartOf l a ++ (if s.1 = a then [(a - s.2.1) * s.2.2] else []) := by
  unfold apartOf
  rw [List.filter_append, List.map_append]
  congr 1
  by_cases c : s.1 = a
  · rw [if_pos c, List.filter_cons_of_pos (by simpa using c)]
    rfl
  · rw [if_neg c, List.filter_cons_of_neg (by simpa using c)]
    rfl
theorem apart_len (l : List (Int × Int × Int)) (a : Int) : (apartOf l a).length ≤ l.length := by
  unfold apartOf
  rw [List.length_map]
  exact List.length_filter_le _ _
theorem side_bits {ks os : List Kind} (g : GoodK ks) (g' : GoodK os) {s : Int × Int × Int} (h : SideOk ks os s) {a : Int} (ha : a ∈ ks.map Prod.fst) : (a - s.2.1).natAbs < 2 ^ 125 ∧ s.2.2.natAbs < 2 ^ 250 := by
  obtain ⟨k, hk, rfl⟩ := List.mem_map.mp ha
  obtain ⟨o, ho, e⟩ := List.mem_map.mp h.there
  have := g.low k hk
  have := g.amt k hk
  have := g'.low o ho
  have := g'.amt o ho
  have := g.people_le
  have := h.many0
  have := h.many1
  rw [← e]
  exact ⟨by omega, by omega⟩
theorem filtAm_len' (x : Int) : ∀ (ks : List Kind) (o : Int), (filtAm o ks x).length ≤ ks.length
  | [], _ => Nat.le_refl _
  | k :: r, o => by
    have := filtAm_len' x r (o + k.2)
    show ((if o + k.2 > x then [k.1] else []) ++ filtAm (o + k.2) r x).length ≤ _
    rw [List.length_append, List.length_cons]
    split
    · show 1 + _ ≤ _
      omega
    · show 0 + _ ≤ _
      omega
theorem filtAm_len (ks : List Kind) (o x : Int) : (filtAm o ks x).length ≤ ks.length := filtAm_len' x ks o
theorem filt_one {e : Int} (h : e > 0) : ([e].filter fun x => decide (x > 0)) = [e] := by simp [h]
theorem filt_none {e : Int} (h : ¬ e > 0) : ([e].filter fun x => decide (x > 0)) = [] := by
  simp only [List.filter_cons, List.filter_nil, decide_eq_true_eq, if_neg h]
/-! ### promises -/
def spAmountAt : Sp := fun vs H Q _ => ∃ (t : Addr) (ks : List Kind) (x : Int), vs = [.ref t, .int x] ∧ KindsAt H t ks ∧ GoodK ks ∧ 0 ≤ x ∧ x < peopleOf ks ∧ ∀ H', Same H H' → Q (.int (amtAt ks x)) H'
def spSides : Sp := fun vs H Q _ => ∃ (t u : Addr) (ks os : List Kind), vs = [.ref t, .ref u] ∧ KindsAt H t ks ∧ GoodK ks ∧ KindsAt H u os ∧ GoodK os ∧ peopleOf ks = peopleOf os ∧
  ∀ p H' es, H p = none → Same H H' → Mixed ks os es → es.length ≤ 60 → LRowsAt tripT H' p (sidesOf ks os 0 es) → Q (.ref p) H'
def spGivesGets : Sp := fun vs H Q _ => ∃ (t u : Addr) (ks os : List Kind), vs = [.ref t, .ref u] ∧ KindsAt H t ks ∧ GoodK ks ∧ KindsAt H u os ∧ GoodK os ∧ peopleOf ks = peopleOf os ∧
  ∀ p H' es, H p = none → Same H H' → Mixed ks os es → es.length ≤ 60 → LRowsAt tripT H' p (ks.map (giveRow (sidesOf ks os 0 es))) → Q (.ref p) H'
def spLeastGifts : Sp := fun vs H Q _ => ∃ (t u : Addr) (ks os : List Kind), vs = [.ref t, .ref u] ∧ KindsAt H t ks ∧ GoodK ks ∧ KindsAt H u os ∧ GoodK os ∧ ∀ H', Same H H' → Q (optV (giftOf ks os)) H'
def spGifts (C : Addr) : Sp := fun vs H Q _ => ∃ (r r2 : Addr) (ks os : List Kind), vs = [.ref r, .ref r2] ∧ PurseAt C H r ks ∧ PurseAt C H r2 os ∧ ∀ H', Same H H' → Q (optV (giftOf ks os)) H'
end Ev

set_option Elab.async false
set_option linter.all false
set_option maxRecDepth 100000
set_option maxHeartbeats 4000000
namespace Ev
open PySem PySem.Spec PyProof.Rows L2 TL
/-! ### purses of persons -/
def gathOf (es L : List Int) : List Kind := es.map fun a => (a, (L.count a : Int))
/-! ### the order by sums of the lowest ones -/
theorem walk_one {ks : List Kind} (h : ∀ k ∈ ks, 0 ≤ k.2) (n : Nat) : walkS 1 ks n = ((heapOf ks).take n).sum := by
  have e : partsOf 1 (heapOf ks) = heapOf ks := by
    unfold partsOf
    induction heapOf ks with
    | nil => rfl
    | cons x r ih =>
      rw [List.flatMap_cons, ih]
      rfl
  have := parts_walk 1 ks n h
  rw [e] at this
  exact this.symm
theorem share_whole {ks : List Kind} (g : GoodK ks) (z : totalOf ks ≠ 0) (p : Int) : shareAns ks p (peopleOf ks) = (walkS 1 ks p * peopleOf ks, totalOf ks * peopleOf ks) := by
  have gp := g.people_pos
  unfold shareAns
  rw [if_neg z]
  have := walk_scale (w := 1) (m := peopleOf ks) (by omega) ks p
  rw [Int.one_mul] at this
  rw [this]
theorem dom_low {ks os : List Kind} (g : GoodK ks) (g' : GoodK os) (hp : peopleOf ks = peopleOf os) (ht : totalOf ks = totalOf os) : Dom os ks ↔ ∀ n : Nat, (n : Int) ≤ peopleOf ks → ((heapOf ks).take n).sum ≤ ((heapOf os).take n).sum := by
  have gp := g.people_pos
  have gt := g.total_le.1
  by_cases z : totalOf ks = 0
  · have z' : totalOf os = 0 := by omega
    have sum0 : ∀ {ms : List Kind}, GoodK ms → totalOf ms = 0 → ∀ n : Nat, ((heapOf ms).take n).sum = 0 := fun {ms} gm hz n => by
      have s := heap_sum (ks := ms) gm.cnt0
      rw [hz] at s
      have nn : ∀ x ∈ heapOf ms, 0 ≤ x := fun x hx => by
        obtain ⟨k, hk, hm⟩ := List.mem_flatMap.mp hx
        rw [List.eq_of_mem_replicate hm]
        exact gm.low k hk
      have pos : ∀ l : List Int, (∀ x ∈ l, 0 ≤ x) → 0 ≤ l.sum := fun l => by
        induction l with
        | nil => intro _; exact Int.le_refl _
        | cons x r ih =>
          intro h
          rw [List.sum_cons]
          have := h x List.mem_cons_self
          have := ih fun y hy => h y (List.mem_cons_of_mem _ hy)
          omega
      have e : (heapOf ms).sum = ((heapOf ms).take n).sum + ((heapOf ms).drop n).sum := by rw [← List.sum_append, List.take_append_drop]
      have a := pos ((heapOf ms).take n) fun x hx => nn x (List.mem_of_mem_take hx)
      have b := pos ((heapOf ms).drop n) fun x hx => nn x (List.mem_of_mem_drop hx)
      omega
    constructor
    · intro _ n _
      rw [sum0 g z, sum0 g' z']
      exact Int.le_refl _
    · intro _ p w p0 pw w1
      unfold shareAns
      rw [if_pos z, if_pos z']
      exact Int.le_refl _
  · have z' : totalOf os ≠ 0 := by omega
    have P : 0 < peopleOf ks := by omega
    have M : 0 < totalOf ks * peopleOf ks := Int.mul_pos (by omega) P
    have one : ∀ p : Int, NoX os ks p (peopleOf os) ↔ walkS 1 ks p ≤ walkS 1 os p := fun p => by
      unfold NoX
      have sk := share_whole g z p
      have so := share_whole g' z' p
      rw [hp] at sk
      rw [sk, so, ← ht, ← hp]
      show walkS 1 ks p * peopleOf ks * (totalOf ks * peopleOf ks) ≤ walkS 1 os p * peopleOf ks * (totalOf ks * peopleOf ks) ↔ _
      constructor
      · intro h
        exact Int.le_of_mul_le_mul_right (Int.le_of_mul_le_mul_right h M) P
      · intro h
        exact Int.mul_le_mul_of_nonneg_right (Int.mul_le_mul_of_nonneg_right h (by omega)) (by omega)
    constructor
    · intro h n hn
      have := (one n).mp (nox_of h (by omega) (by omega) (by omega))
      rw [walk_one g.cnt0, walk_one g'.cnt0] at this
      exact this
    · intro h
      refine dom_ends g' g fun i hi => ?_
      have e1 := g'.take_le (i + 1)
      have e0 : 0 ≤ peopleOf (os.take (i + 1)) := (g'.take_people (i + 1)).1
      obtain ⟨n, hn⟩ : ∃ n : Nat, peopleOf (os.take (i + 1)) = (n : Int) := ⟨(peopleOf (os.take (i + 1))).toNat, by omega⟩
      rw [hn]
      refine (one n).mpr ?_
      rw [walk_one g.cnt0, walk_one g'.cnt0]
      exact h n (by omega)
/-! ### gifts person by person -/
def lowB (L M : List Int) (n : Nat) : Bool := (List.range (n + 1)).all fun i => decide ((L.take i).sum ≤ (M.take i).sum)
def dueG (L M : List Int) : Option Int := if L.length = M.length ∧ L.sum = M.sum ∧ lowB L M L.length = true then some (giftH L M) else none
theorem lowB_iff (L M : List Int) (n : Nat) : lowB L M n = true ↔ ∀ i, i ≤ n → (L.take i).sum ≤ (M.take i).sum := by
  unfold lowB
  rw [List.all_eq_true]
  constructor
  · intro h i hi
    exact of_decide_eq_true (h i (List.mem_range.mpr (by omega)))
  · intro h i hi
    have := List.mem_range.mp hi
    exact decide_eq_true (h i (by omega))
theorem gift_due {ks os : List Kind} (g : GoodK ks) (g' : GoodK os) : giftOf ks os = dueG (heapOf ks) (heapOf os) := by
  have l1 := heap_len (ks := ks) g.cnt0
  have l2 := heap_len (ks := os) g'.cnt0
  have s1 := heap_sum (ks := ks) g.cnt0
  have s2 := heap_sum (ks := os) g'.cnt0
  unfold giftOf dueG
  by_cases hp : peopleOf ks = peopleOf os
  · by_cases ht : totalOf ks = totalOf os
    · have a : (heapOf ks).length = (heapOf os).length := by omega
      have b : (heapOf ks).sum = (heapOf os).sum := by omega
      have c : crossOf os ks = none ↔ lowB (heapOf ks) (heapOf os) (heapOf ks).length = true := by
        rw [cross_none g' g, dom_low g g' hp ht, lowB_iff]
        exact ⟨fun h i hi => h i (by omega), fun h n hn => h n (by omega)⟩
      by_cases d : crossOf os ks = none
      · rw [if_pos ⟨hp, ht, d⟩, if_pos ⟨a, b, c.mp d⟩]
      · rw [if_neg (fun h => d h.2.2), if_neg (fun h => d (c.mpr h.2.2))]
    · rw [if_neg (fun h => ht h.2.1), if_neg (fun h => ht (by omega))]
  · rw [if_neg (fun h => hp h.1), if_neg (fun h => hp (by omega))]
/-! ### promises -/
/-- sorted, from 0 to 1000, some, not many -/
structure HeapOk (L : List Int) : Prop where
  up : L.Pairwise (· ≤ ·)
  low : ∀ x ∈ L, 0 ≤ x ∧ x ≤ 1000
  len1 : 1 ≤ L.length
  len : L.length ≤ 20
def IntsAt (H : Hp) (p : Addr) (L : List Int) : Prop := H p = some (.lst (L.map V.int))
def spGathered : Sp := fun vs H Q _ => ∃ (p : Addr) (L : List Int), vs = [.ref p] ∧ IntsAt H p L ∧ HeapOk L ∧ ∀ t H' ks, Same H H' → KindsAt H' t ks → GoodK ks → heapOf ks = L → Q (.ref t) H'
def spGiven : Sp := fun vs H Q _ => ∃ (a p : Addr) (L : List Int) (n : Nat), vs = [.ref a, .ref p] ∧ Vt n H a ∧ n ≤ 800000000 ∧ IntsAt H p L ∧ HeapOk L ∧ ∀ q M H', H q = none → Fx a H H' → IntsAt H' q M → HeapOk M → Vt (n + 20) H' a → Q (.ref q) H'
def spDueG : Sp := fun vs H Q _ => ∃ (p q : Addr) (L M : List Int), vs = [.ref p, .ref q] ∧ IntsAt H p L ∧ IntsAt H q M ∧ HeapOk L ∧ HeapOk M ∧ ∀ H', Same H H' → Q (optV (dueG L M)) H'
end Ev

set_option Elab.async false
set_option linter.all false
set_option maxRecDepth 100000
set_option maxHeartbeats 4000000
namespace Ev
open PySem PySem.Spec PyProof.Rows L2 TL
theorem Vt.fxd {n : Nat} {H H' : Hp} {a d : Addr} (v : Vt n H a) (f : Fx d H H') (ne : a ≠ d) : Vt n H' a := by
  obtain ⟨x, y, z, e, r⟩ := v
  exact ⟨x, y, z, f _ _ ne e, r⟩
/-! ### gifts from richer to poorer ones -/
def fsum (f : Int → Int) (ns : List (Int × Int)) : Int := (ns.map fun e => f e.1 * e.2).sum
theorem fsum_cons (f : Int → Int) (e : Int × Int) (r : List (Int × Int)) : fsum f (e :: r) = f e.1 * e.2 + fsum f r := by simp [fsum]
theorem fsum_perm (f : Int → Int) {xs ys : List (Int × Int)} (p : xs.Perm ys) : fsum f xs = fsum f ys := by
  induction p with
  | nil => rfl
  | cons x _ ih => rw [fsum_cons, fsum_cons, ih]
  | swap x y l => rw [fsum_cons, fsum_cons, fsum_cons, fsum_cons]; omega
  | trans _ _ h1 h2 => exact h1.trans h2
theorem fsum_people (ns : List (Int × Int)) : fsum (fun _ => 1) ns = peopleOf ns := by
  unfold fsum peopleOf
  congr 1
  exact List.map_congr_left fun e _ => Int.one_mul _
theorem fsum_total (ns : List (Int × Int)) : fsum id ns = totalOf ns := rfl
theorem rep_sum (n : Nat) (x : Int) : (List.replicate n x).sum = n * x := by
  induction n with
  | zero => simp
  | succ n ih => rw [List.replicate_succ, List.sum_cons, ih]; grind
theorem fsum_heap (f : Int → Int) : ∀ {ns : List (Int × Int)}, (∀ e ∈ ns, 0 ≤ e.2) → ((heapOf ns).map f).sum = fsum f ns
  | [], _ => rfl
  | e :: r, h => by
    have e0 := h e List.mem_cons_self
    rw [heap_cons, List.map_append, List.sum_append, fsum_heap f (fun x hx => h x (List.mem_cons_of_mem _ hx)), fsum_cons, List.map_replicate, rep_sum]
    have : ((e.2.toNat : Nat) : Int) = e.2 := by omega
    rw [this, Int.mul_comm]
/-- some gifts: many of the poor kind get so much more, many of the rich kind have so much less -/
def giveT (ns : List (Int × Int)) (poor rich many more : Int) : List (Int × Int) := addR (addR (addR (addR ns poor (0 - many)) (poor + more) many) rich (0 - many)) (rich - more) many
def giveAt (ns : List (Int × Int)) (poor rich many more : Int) : Nat → List (Int × Int)
  | 0 => ns
  | 1 => addR ns poor (0 - many)
  | 2 => addR (addR ns poor (0 - many)) (poor + more) many
  | 3 => addR (addR (addR ns poor (0 - many)) (poor + more) many) rich (0 - many)
  | _ => giveT ns poor rich many more
def giveSpot (poor rich many more : Int) : Nat → Int × Int
  | 0 => (poor, 0 - many)
  | 1 => (poor + more, many)
  | 2 => (rich, 0 - many)
  | _ => (rich - more, many)
/-- a table of amounts and counts -/
structure Tab (A : Int) (ns : List (Int × Int)) : Prop where
  nd : (ns.map (·.1)).Nodup
  low : ∀ e ∈ ns, 0 ≤ e.1 ∧ e.1 ≤ A
  cnt : ∀ e ∈ ns, 1 ≤ e.2
def short (t : Int) (x : Int) : Int := pos0 (t - x)
/-- as many people, as much, and nowhere more that lacks -/
structure Nearer (a b : List (Int × Int)) : Prop where
  people : peopleOf b = peopleOf a
  total : totalOf b = totalOf a
  lack : ∀ t, fsum (short t) b ≤ fsum (short t) a
theorem Nearer.refl (a : List (Int × Int)) : Nearer a a := ⟨rfl, rfl, fun _ => Int.le_refl _⟩
theorem Nearer.trans {a b c : List (Int × Int)} (h : Nearer a b) (g : Nearer b c) : Nearer a c := ⟨g.people.trans h.people, g.total.trans h.total, fun t => Int.le_trans (g.lack t) (h.lack t)⟩
theorem Nearer.perm {a b c : List (Int × Int)} (h : Nearer a b) (p : c.Perm b) : Nearer a c := by
  refine ⟨?_, ?_, fun t => ?_⟩
  · rw [← h.people, ← fsum_people, ← fsum_people]; exact fsum_perm _ p
  · rw [← h.total, ← fsum_total, ← fsum_total]; exact fsum_perm _ p
  · rw [fsum_perm _ p]; exact h.lack t
/-! ### what lacks tells the order -/
theorem low_of_lack {L M : List Int} (sL : L.Pairwise (· ≤ ·)) (hl : L.length = M.length) (h : ∀ t, (M.map (short t)).sum ≤ (L.map (short t)).sum) (n : Nat) (hn : n ≤ L.length) : (L.take n).sum ≤ (M.take n).sum := by
  -- with the threshold at the last one taken
  have lower : ∀ (t : Int) (X : List Int) (k : Nat), k ≤ X.length → (k : Int) * t - (X.map (short t)).sum ≤ (X.take k).sum := fun t X => by
    induction X with
    | nil =>
      intro k hk
      have : k = 0 := by simpa using hk
      subst this
      simp
    | cons x r ih =>
      intro k hk
      rw [List.map_cons, List.sum_cons]
      have p := pos0_nonneg (t - x)
      match k with
      | 0 =>
        have := ih 0 (Nat.zero_le _)
        have q : 0 ≤ (r.map (short t)).sum := by
          simp only [List.take_zero, List.sum_nil] at this
          omega
        show ((0 : Nat) : Int) * t - (short t x + _) ≤ 0
        unfold short at *
        omega
      | k + 1 =>
        have := ih k (by simpa using hk)
        rw [List.take_succ_cons, List.sum_cons]
        have e : ((k + 1 : Nat) : Int) * t = k * t + t := by grind
        rw [e]
        have : t - short t x ≤ x := by
          unfold short pos0
          split <;> omega
        omega
  by_cases z : n = 0
  · subst z
    simp
  · obtain ⟨m, rfl⟩ : ∃ m, n = m + 1 := ⟨n - 1, by omega⟩
    have hm : L[m]? = some (L[m]'(by omega)) := List.getElem?_eq_getElem _
    generalize (L[m]'(by omega)) = t at hm
    have eqL : ∀ (X : List Int) (k : Nat), X.Pairwise (· ≤ ·) → X[k]? = some t → ((k + 1 : Nat) : Int) * t - (X.map (short t)).sum = (X.take (k + 1)).sum := fun X => by
      induction X with
      | nil => intro k _ h; cases h
      | cons x r ih =>
        intro k hs hk
        obtain ⟨h1, h2⟩ := List.pairwise_cons.mp hs
        rw [List.map_cons, List.sum_cons, List.take_succ_cons, List.sum_cons]
        match k with
        | 0 =>
          have e : x = t := Option.some.inj hk
          have z : (r.map (short t)).sum = 0 := by
            have : ∀ Y : List Int, (∀ y ∈ Y, t ≤ y) → (Y.map (short t)).sum = 0 := fun Y => by
              induction Y with
              | nil => intro _; rfl
              | cons y s ihy =>
                intro hy
                rw [List.map_cons, List.sum_cons, ihy fun q hq => hy q (List.mem_cons_of_mem _ hq)]
                have := hy y List.mem_cons_self
                unfold short pos0
                rw [if_neg (by omega)]
                rfl
            exact this r fun y hy => by have := h1 y hy; omega
          rw [z, e]
          have : short t t = 0 := by unfold short pos0; rw [if_neg (by omega)]
          rw [this]
          simp
        | k + 1 =>
          have := ih k h2 (by simpa using hk)
          have xt : x ≤ t := h1 t (List.mem_of_getElem? (by simpa using hk))
          have : short t x = t - x := by
            unfold short pos0
            split <;> omega
          have e : ((k + 1 + 1 : Nat) : Int) * t = ((k + 1 : Nat) : Int) * t + t := by grind
          omega
    have a := eqL L m sL hm
    have b := lower t M (m + 1) (by omega)
    have c := h t
    omega
theorem Nearer.dom {ks os : List Kind} (g : GoodK ks) (g' : GoodK os) (h : Nearer ks os) : Dom os ks := by
  have l1 := heap_len (ks := ks) g.cnt0
  have l2 := heap_len (ks := os) g'.cnt0
  have hp := h.people
  refine (dom_low g g' h.people.symm h.total.symm).mpr fun n hn => ?_
  refine low_of_lack (heap_rise (List.pairwise_map.mp g.pair)) (by omega) (fun t => ?_) n (by omega)
  rw [fsum_heap _ g.cnt0, fsum_heap _ g'.cnt0]
  exact h.lack t
theorem heap_inj : ∀ {ks os : List Kind}, (ks.map Prod.fst).Pairwise (· < ·) → (os.map Prod.fst).Pairwise (· < ·) → (∀ k ∈ ks, 1 ≤ k.2) → (∀ k ∈ os, 1 ≤ k.2) → heapOf ks = heapOf os → ks = os
  | [], [], _, _, _, _, _ => rfl
  | [], o :: r, _, _, _, h2, e => by
    have := h2 o List.mem_cons_self
    rw [heap_cons] at e
    have l := congrArg List.length e
    rw [List.length_append, List.length_replicate] at l
    have : (heapOf []).length = 0 := rfl
    omega
  | k :: r, [], _, _, h1, _, e => by
    have := h1 k List.mem_cons_self
    rw [heap_cons] at e
    have l := congrArg List.length e
    rw [List.length_append, List.length_replicate] at l
    have : (heapOf []).length = 0 := rfl
    omega
  | k :: r, o :: s, p1, p2, h1, h2, e => by
    have k1 := h1 k List.mem_cons_self
    have o1 := h2 o List.mem_cons_self
    rw [List.map_cons, List.pairwise_cons] at p1 p2
    rw [heap_cons, heap_cons] at e
    obtain ⟨n, hn⟩ : ∃ n, k.2.toNat = n + 1 := ⟨k.2.toNat - 1, by omega⟩
    obtain ⟨m, hm⟩ : ∃ m, o.2.toNat = m + 1 := ⟨o.2.toNat - 1, by omega⟩
    have f : k.1 = o.1 := by
      rw [hn, hm, List.replicate_succ, List.replicate_succ, List.cons_append, List.cons_append] at e
      exact (List.cons.inj e).1
    have none : ∀ {t : List Kind} {a : Int}, (∀ x ∈ t.map Prod.fst, a < x) → (heapOf t).count a = 0 := fun {t a} h => by
      rw [List.count_eq_zero]
      intro m
      obtain ⟨x, hx, hm⟩ := List.mem_flatMap.mp m
      have := List.eq_of_mem_replicate hm
      have := h x.1 (List.mem_map_of_mem hx)
      omega
    have c := congrArg (List.count k.1) e
    rw [List.count_append, List.count_append, none p1.1, f, none p2.1, List.count_replicate_self, List.count_replicate_self] at c
    have e2 : k.2 = o.2 := by omega
    rw [e2, f] at e
    have := heap_inj p1.2 p2.2 (fun x hx => h1 x (List.mem_cons_of_mem _ hx)) (fun x hx => h2 x (List.mem_cons_of_mem _ hx)) (List.append_cancel_left e)
    rw [this]
    congr 1
    exact Prod.ext f e2
theorem GoodK.heap_inj {ks os : List Kind} (g : GoodK ks) (g' : GoodK os) (e : heapOf ks = heapOf os) : ks = os :=
  Ev.heap_inj g.pair g'.pair (fun k hk => (g.cnt k hk).1) (fun k hk => (g'.cnt k hk).1) e
theorem Tab.people {A : Int} {ns : List (Int × Int)} (h : Tab A ns) {e : Int × Int} (m : e ∈ ns) : e.2 ≤ peopleOf ns := by
  have key : ∀ l : List (Int × Int), (∀ e ∈ l, 1 ≤ e.2) → e ∈ l → e.2 ≤ peopleOf l ∧ 0 ≤ peopleOf l := fun l => by
    induction l with
    | nil => intro _ h; cases h
    | cons x r ih =>
      intro hc hm
      rw [people_cons]
      have x1 := hc x List.mem_cons_self
      have r0 := people_nonneg (ks := r) fun y hy => by have := hc y (List.mem_cons_of_mem _ hy); omega
      rcases List.mem_cons.mp hm with y | y
      · rw [y]
        omega
      · have := ih (fun z hz => hc z (List.mem_cons_of_mem _ hz)) y
        omega
  exact (key ns h.cnt m).1
theorem Tab.good {A : Int} {ns ms : List (Int × Int)} (h : Tab A ns) (hA : A ≤ 10 ^ 36) (hp : peopleOf ns ≤ 10 ^ 72) (l1 : 1 ≤ ns.length) (l30 : ns.length ≤ 30) (p : ms.Perm ns) (s : ms.Pairwise fun x y => x.1 ≤ y.1) : GoodK ms := by
  have ln := p.length_eq
  refine goodK_of (by omega) (by omega) (fun k hk => (h.low k (p.mem_iff.mp hk)).1) ?_ (fun k hk => Int.le_trans (h.low k (p.mem_iff.mp hk)).2 hA) (fun k hk => ⟨h.cnt k (p.mem_iff.mp hk), Int.le_trans (h.people (p.mem_iff.mp hk)) hp⟩)
  have nd : (ms.map (·.1)).Nodup := (p.map (·.1)).nodup_iff.mpr h.nd
  have nd2 : ms.Pairwise fun x y => x.1 ≠ y.1 := List.pairwise_map.mp nd
  exact List.pairwise_map.mpr ((s.and nd2).imp fun {x y} z => by have := z.1; have := z.2; omega)
def spBehindG : Sp := fun vs H Q _ => ∃ (a t : Addr) (ks : List Kind) (n : Nat), vs = [.ref a, .ref t] ∧ Vt n H a ∧ n ≤ 700000000 ∧ KindsAt H t ks ∧ GoodK ks ∧ ks.length ≤ 20 ∧ (∀ k ∈ ks, k.1 ≤ 10 ^ 30) ∧ peopleOf ks ≤ 10 ^ 72 ∧
  ∀ p H' ms, Fx a H H' → KindsAt H' p ms → GoodK ms → ms.length ≤ ks.length + 4 → (∀ k ∈ ms, k.1 ≤ 10 ^ 30) → Nearer ks ms → Vt (n + 400) H' a → Q (.ref p) H'
def spDueK : Sp := fun vs H Q _ => ∃ (t u : Addr) (ks os : List Kind), vs = [.ref t, .ref u] ∧ KindsAt H t ks ∧ GoodK ks ∧ KindsAt H u os ∧ GoodK os ∧ peopleOf ks = peopleOf os ∧ ∀ H', Same H H' → Q (.int (giftH (heapOf ks) (heapOf os))) H'
def spTimesQ (C : Addr) : Sp := fun vs H Q _ => ∃ (t : Addr) (ks : List Kind) (m w : Int), vs = [.ref t, .int m, .int w] ∧ KindsAt H t ks ∧ GoodK ks ∧ 1 ≤ m ∧ m ≤ 10 ∧ 1 ≤ w ∧ w ≤ 10 ∧ (∀ k ∈ ks, k.1 ≤ 10 ^ 30) ∧ (∀ k ∈ ks, k.2 ≤ 10 ^ 71) ∧
  ∀ p H', H p = none → Same H H' → PurseAt C H' p (wideK w (tallK m ks)) → Q (.ref p) H'
/-- rows of amounts and counts, some -/
structure RowK (ks : List Kind) : Prop where
  low : ∀ k ∈ ks, 0 ≤ k.1 ∧ k.1 ≤ 10 ^ 36
  cnt : ∀ k ∈ ks, 1 ≤ k.2 ∧ k.2 ≤ 10 ^ 72
  len : ks.length ≤ 30
theorem RowK.of {ks : List Kind} (g : GoodK ks) : RowK ks := ⟨fun k hk => ⟨g.low k hk, g.amt k hk⟩, g.cnt, g.len30⟩
theorem RowK.rest {k : Kind} {r : List Kind} (h : RowK (k :: r)) {n : Int} (n0 : 0 ≤ n) (n1 : n ≤ k.2) : RowK (if k.2 > n then (k.1, k.2 - n) :: r else r) := by
  have hr : RowK r := ⟨fun x hx => h.low x (List.mem_cons_of_mem _ hx), fun x hx => h.cnt x (List.mem_cons_of_mem _ hx), by have := h.len; rw [List.length_cons] at this; omega⟩
  split
  · refine ⟨fun x hx => ?_, fun x hx => ?_, by have := h.len; rw [List.length_cons] at *; exact this⟩
    · rcases List.mem_cons.mp hx with e | e
      · rw [e]; exact h.low k List.mem_cons_self
      · exact hr.low x e
    · rcases List.mem_cons.mp hx with e | e
      · rw [e]
        have := h.cnt k List.mem_cons_self
        show 1 ≤ k.2 - n ∧ k.2 - n ≤ 10 ^ 72
        omega
      · exact hr.cnt x e
  · exact hr
def kindsLD (ks : List Kind) : PyData := .list (ks.map kindD)
theorem RowsL.tail {α : Type} {f : α → List V} {H : Hp} {h : Addr} {rs : List Addr} {x : α} {xs : List α} (a : RowsL f H (h :: rs) (x :: xs)) : RowsL f H rs xs := ⟨by have := a.len; simpa using this, fun i r b h1 h2 => a.at_ (i + 1) r b (by simpa using h1) (by simpa using h2)⟩
def lenAt (H : Hp) (a : Addr) : Nat := match H a with
  | some (.lst xs) => xs.length
  | _ => 0
/-! ### sums of gifts -/
theorem giftH_self : ∀ a : List Int, giftH a a = 0
  | [] => rfl
  | x :: a => by
    show pos0 (x - x) + giftH a a = 0
    rw [giftH_self a, Int.sub_self]
    rfl
theorem giftH_zero : ∀ {a b : List Int}, a.length = b.length → a.sum = b.sum → giftH a b = 0 → a = b := fun {a b} hl hs h => by
  have key : ∀ {a b : List Int}, a.length = b.length → giftH a b = 0 → b.sum ≤ a.sum → a = b ∧ a.sum = b.sum ∨ a.sum < b.sum := fun {a} => by
    induction a with
    | nil =>
      intro b hl _ _
      cases b with
      | nil => exact .inl ⟨rfl, rfl⟩
      | cons y b => simp at hl
    | cons x a ih =>
      intro b hl h hs
      cases b with
      | nil => simp at hl
      | cons y b =>
        have e : pos0 (x - y) + giftH a b = 0 := h
        have p := pos0_nonneg (x - y)
        have q := giftH_nonneg a b
        have xy : x ≤ y := by
          by_cases c : 0 < x - y
          · have : pos0 (x - y) = x - y := by unfold pos0; rw [if_pos c]
            omega
          · omega
        rw [List.sum_cons, List.sum_cons] at *
        have hl' : a.length = b.length := by simpa using hl
        rcases ih hl' (by omega) (by omega) with ⟨e1, e2⟩ | e2
        · have : x = y := by omega
          exact .inl ⟨by rw [this, e1], by omega⟩
        · exact .inr (by omega)
  rcases key hl h (by omega) with ⟨e, _⟩ | e
  · exact e
  · omega
theorem giftH_rep2 (w : Nat) : ∀ {a b : List Int}, a.length = b.length → giftH (partsOf w a) (partsOf w b) = w * giftH a b
  | [], [], _ => by simp [partsOf, giftH]
  | [], _ :: _, h => by simp at h
  | _ :: _, [], h => by simp at h
  | x :: a, y :: b, h => by
    have ih := giftH_rep2 w (a := a) (b := b) (by simpa using h)
    have e : ∀ (z : Int) (r : List Int), partsOf w (z :: r) = List.replicate w z ++ partsOf w r := fun z r => rfl
    rw [e, e, giftH_rep, ih]
    show _ = (w : Int) * (pos0 (x - y) + giftH a b)
    rw [Int.mul_add]
theorem giftH_mul {t : Int} (h : 0 ≤ t) : ∀ (a b : List Int), giftH (a.map (t * ·)) (b.map (t * ·)) = t * giftH a b
  | [], _ => by simp [giftH]
  | _ :: _, [] => by simp [giftH]
  | x :: a, y :: b => by
    rw [List.map_cons, List.map_cons]
    show pos0 (t * x - t * y) + giftH _ _ = t * (pos0 (x - y) + giftH a b)
    rw [giftH_mul h a b, ← Int.mul_sub, Int.mul_comm t (x - y), pos0_mul h]
    grind
theorem heap_tall (t : Int) : ∀ ks : List Kind, heapOf (tallK t ks) = (heapOf ks).map (t * ·)
  | [] => rfl
  | k :: r => by
    show heapOf ((t * k.1, k.2) :: tallK t r) = _
    rw [heap_cons, heap_cons, heap_tall t r, List.map_append, List.map_replicate]
theorem heap_wide {w : Int} (h : 0 ≤ w) : ∀ {ks : List Kind}, (∀ k ∈ ks, 0 ≤ k.2) → heapOf (wideK w ks) = partsOf w.toNat (heapOf ks)
  | [], _ => rfl
  | k :: r, h' => by
    have k0 := h' k List.mem_cons_self
    show heapOf ((k.1, w * k.2) :: wideK w r) = _
    rw [heap_cons, heap_cons, heap_wide h (fun x hx => h' x (List.mem_cons_of_mem _ hx)), parts_app, parts_rep]
    congr 2
    show (w * k.2).toNat = k.2.toNat * w.toNat
    obtain ⟨n, rfl⟩ := Int.eq_ofNat_of_zero_le h
    obtain ⟨m, hm⟩ := Int.eq_ofNat_of_zero_le k0
    rw [hm]
    have : ((n : Int) * (m : Int)) = ((n * m : Nat) : Int) := by simp
    rw [this, Int.toNat_natCast, Int.toNat_natCast, Int.toNat_natCast, Nat.mul_comm]
theorem Nearer.len {ks os : List Kind} (g : GoodK ks) (g' : GoodK os) (h : Nearer ks os) : (heapOf ks).length = (heapOf os).length := by
  have a := heap_len (ks := ks) g.cnt0
  have b := heap_len (ks := os) g'.cnt0
  have := h.people
  omega
theorem Nearer.zero {ks os : List Kind} (g : GoodK ks) (g' : GoodK os) (h : Nearer ks os) : giftH (heapOf ks) (heapOf os) = 0 ↔ ks = os := by
  constructor
  · intro z
    refine g.heap_inj g' (giftH_zero (h.len g g') ?_ z)
    rw [heap_sum g.cnt0, heap_sum g'.cnt0]
    exact h.total.symm
  · intro e
    rw [e, giftH_self]
theorem Nearer.times {ks os : List Kind} (g : GoodK ks) (g' : GoodK os) (h : Nearer ks os) {m w : Int} (m1 : 1 ≤ m) (w1 : 1 ≤ w) (gk : GoodK (wideK w (tallK m ks))) (go : GoodK (wideK w (tallK m os))) (hk : GoodK (tallK m ks)) (ho : GoodK (tallK m os)) :
    giftOf (wideK w (tallK m ks)) (wideK w (tallK m os)) = some (m * w * giftH (heapOf ks) (heapOf os)) := by
  have d : Dom (wideK w (tallK m os)) (wideK w (tallK m ks)) := by
    have d0 := h.dom g g'
    have a1 := (even_tall (m := m) m1 os).symm.dom
    have a2 := (even_tall (m := m) m1 ks).dom
    have b1 := (even_wide (m := w) w1 (tallK m os)).symm.dom
    have b2 := (even_wide (m := w) w1 (tallK m ks)).dom
    have c1 : Dom (tallK m os) (tallK m ks) := Dom.trans g' ho hk a1 (Dom.trans g g' hk d0 a2)
    exact Dom.trans ho go gk b1 (Dom.trans hk ho gk c1 b2)
  unfold giftOf
  have p : peopleOf (wideK w (tallK m ks)) = peopleOf (wideK w (tallK m os)) := by rw [wide_people, wide_people, tall_people, tall_people, h.people]
  have t : totalOf (wideK w (tallK m ks)) = totalOf (wideK w (tallK m os)) := by rw [wide_total, wide_total, tall_total, tall_total, h.total]
  rw [if_pos ⟨p, t, (cross_none go gk).mpr d⟩]
  have l := h.len g g'
  rw [heap_wide (by omega) hk.cnt0, heap_wide (by omega) ho.cnt0, heap_tall, heap_tall, giftH_rep2 _ (by rw [List.length_map, List.length_map, l]), giftH_mul (by omega)]
  congr 1
  have : ((w.toNat : Nat) : Int) = w := by omega
  rw [this]
  grind
end Ev

set_option Elab.async false
set_option linter.all false
set_option maxRecDepth 100000
set_option maxHeartbeats 4000000
namespace Ev
open PySem PySem.Spec PyProof.Rows L2 TL
/-! ### one of two promises -/
def spOr (s1 s2 : Sp) : Sp := fun vs H Q E => s1 vs H Q E ∨ s2 vs H Q E
theorem fnok_or {P : Program} {w : World} {K : PySem.W.Frag} {mg : Str → Option Value} {base : Heap} {CX : CXT} {k : Nat} {f : Addr} {fd : FuncData} {ps : List Str} {s1 s2 : Sp} (F : FnOk P w K mg base CX k f fd ps s1) (G : FnOk P w K mg base CX k f fd ps s2) :
    FnOk P w K mg base CX k f fd ps (spOr s1 s2) :=
  ⟨fun vs H Q E q => q.elim (F.len vs H Q E) (G.len vs H Q E), fun A outer s H args us vs Q E hr he hb hv hs => hs.elim (F.run A outer s H args us vs Q E hr he hb hv) (G.run A outer s H args us vs Q E hr he hb hv)⟩
theorem fng_or {P : Program} {w : World} {K : PySem.W.Frag} {mg : Str → Option Value} {base : Heap} {k : Nat} {f : Addr} {fd : FuncData} {ps : List Str} {s1 s2 : Sp} (F : FnG P w K mg base k f fd ps s1) (G : FnG P w K mg base k f fd ps s2) :
    FnG P w K mg base k f fd ps (spOr s1 s2) :=
  ⟨fun vs H Q E q => q.elim (F.len vs H Q E) (G.len vs H Q E), fun A outer s H args us vs Q E hr h0 he hb hv hs => hs.elim (F.run A outer s H args us vs Q E hr h0 he hb hv) (G.run A outer s H args us vs Q E hr h0 he hb hv)⟩
theorem fng_imp {P : Program} {w : World} {K : PySem.W.Frag} {mg : Str → Option Value} {base : Heap} {k : Nat} {f : Addr} {fd : FuncData} {ps : List Str} {s1 s2 : Sp} (F : FnG P w K mg base k f fd ps s1) (h : ∀ vs H Q E, s2 vs H Q E → s1 vs H Q E) :
    FnG P w K mg base k f fd ps s2 :=
  ⟨fun vs H Q E q => F.len vs H Q E (h _ _ _ _ q), fun A outer s H args us vs Q E hr h0 he hb hv hs => F.run A outer s H args us vs Q E hr h0 he hb hv (h _ _ _ _ hs)⟩
theorem def_imp {P : Program} {w : World} {K : PySem.W.Frag} {mg : Str → Option Value} {base : Heap} {x : Str} {ps : List Str} {k : Nat} {s1 s2 : Sp} (D : Def P w K mg base x ps k s1) (h : ∀ vs H Q E, s2 vs H Q E → s1 vs H Q E) : Def P w K mg base x ps k s2 :=
  let ⟨f, fd, a, b, c, F⟩ := D; ⟨f, fd, a, b, c, F.imp h⟩
theorem gdef_imp {P : Program} {w : World} {K : PySem.W.Frag} {mg : Str → Option Value} {base : Heap} {x : Str} {ps : List Str} {k : Nat} {s1 s2 : Sp} (D : GDef P w K mg base x ps k s1) (h : ∀ vs H Q E, s2 vs H Q E → s1 vs H Q E) : GDef P w K mg base x ps k s2 :=
  let ⟨f, fd, a, b, c, F⟩ := D; ⟨f, fd, a, b, c, fng_imp F h⟩
/-! ### things of data that show alike -/
def spSameD (K : PySem.W.Frag) : Sp := fun vs H Q _ => ∃ (v u : V) (d : PyData), vs = [v, u] ∧ Dp K H v d ∧ Dp K H u d ∧ isDisplay d = true ∧ d.showable = true ∧ d.hasDict = false ∧ d.depth ≤ 150 ∧ d.shown.length ≤ sizeLine ∧ Q (.bl true) H
theorem sameB_D {K : PySem.W.Frag} {vs : List V} {H : Hp} {Q : VK} {E : XK} (h : spSameB K vs H Q E) : spSameD K vs H Q E := by
  obtain ⟨p, q, a, b, rfl, hp, hq, k⟩ := h
  exact ⟨_, _, bool2D a b, rfl, dp_bool2 hp, dp_bool2 hq, rfl, rfl, rfl, depth_bool2 a b, show_bool2 a b, k⟩
/-! ### some gifts, in turn -/
theorem Wl.fxd {n : Nat} {H H' : Hp} {a d : Addr} (v : Wl n H a) (f : Fx d H H') (ne : a ≠ d) : Wl n H' a := by
  obtain ⟨x, y, z, e, r⟩ := v
  exact ⟨x, y, z, f _ _ ne e, r⟩
def spEvened : Sp := fun vs H Q _ => ∃ (a t : Addr) (ks : List Kind) (n : Nat) (A : Int), vs = [.ref a, .ref t] ∧ Wl n H a ∧ n ≤ 800000000 ∧ KindsAt H t ks ∧ GoodK ks ∧ ks.length ≤ 20 ∧ peopleOf ks ≤ 10 ^ 72 ∧ A ≤ 10 ^ 36 ∧ (∀ k ∈ ks, k.1 ≤ A) ∧
  ∀ p H' ms, H p = none → Fx a H H' → KindsAt H' p ms → GoodK ms → ms.length ≤ ks.length + 6 → Nearer ks ms → (∀ k ∈ ms, k.1 ≤ A) → Wl (n + 30) H' a → Q (.ref p) H'
/-! ### claims of order and their certificates -/
def spAcc2 (K : PySem.W.Frag) : Sp := spOr (spAccepts "accepts_even" (spEven K)) (spAccepts "accepts_uneven" (spUneven K))
def spJud2 (K : PySem.W.Frag) : Sp := spOr (spJudged "accepts_even" (spEven K)) (spJudged "accepts_uneven" (spUneven K))
/-- what is told of the order of two purses: at c the claim, q its certificate -/
def OrdAt (H : Hp) (ks ms : List Kind) (p : Addr) : Prop := ∃ (c z : Addr), H p = some (.tup [.ref c, .ref z]) ∧
  ((crossOf ks ms = none ∧ H c = some (.tup [.str "even", .str (sheetOf ks), .str (sheetOf ms)]) ∧ H z = some (.tup [])) ∨
   ∃ e, crossOf ks ms = some e ∧ H c = some (.tup [.str "uneven", .str (sheetOf ks), .str (sheetOf ms)]) ∧ H z = some (.tup (pairT (e, peopleOf ks))))
theorem OrdAt.same {H H' : Hp} {ks ms : List Kind} {p : Addr} (h : OrdAt H ks ms p) (s : Same H H') : OrdAt H' ks ms p := by
  obtain ⟨c, z, h1, h2⟩ := h
  refine ⟨c, z, s _ _ h1, h2.elim (fun ⟨a, b, d⟩ => .inl ⟨a, s _ _ b, s _ _ d⟩) fun ⟨e, a, b, d⟩ => .inr ⟨e, a, s _ _ b, s _ _ d⟩⟩
def claimD (w : Str) (ks ms : List Kind) : PyData := .tuple [.str w, .str (sheetOf ks), .str (sheetOf ms)]
theorem show_claim {w : Str} {ks ms : List Kind} (hw : Fit (.str w) 70002 1) (g : GoodK ks) (g' : GoodK ms) : isDisplay (claimD w ks ms) = true ∧ (claimD w ks ms).showable = true ∧ (claimD w ks ms).hasDict = false ∧ (claimD w ks ms).depth ≤ 150 ∧ (claimD w ks ms).shown.length ≤ sizeLine :=
  show_tuple (n := 70002) (d := 1) (by simp) (fits_cons hw (fits_cons (fit_sheet g) (fits_cons (fit_sheet g') fits_nil))) (by decide) (by show 3 * (70002 + 2) ≤ _; decide)
theorem dp_claim {K : PySem.W.Frag} {H : Hp} {c : Addr} {w : Str} {ks ms : List Kind} (h : H c = some (.tup [.str w, .str (sheetOf ks), .str (sheetOf ms)])) : Dp K H (.ref c) (claimD w ks ms) :=
  .tup (SqT.of h) (.cons (.str _) (.cons (.str _) (.cons (.str _) .nil)))
theorem fit_even : Fit (.str ("even" : Str)) 70002 1 := fit_str (n := 7000) (by decide +kernel) (by decide +kernel)
theorem fit_uneven : Fit (.str ("uneven" : Str)) 70002 1 := fit_str (n := 7000) (by decide +kernel) (by decide +kernel)
theorem even_of_cross {ks ms : List Kind} (g : GoodK ks) (g' : GoodK ms) (h : crossOf ks ms = none) : asE ks ms = true := by
  rw [← asE_cross g g', h]
  rfl
theorem less_of_cross {ks ms : List Kind} (g : GoodK ks) (g' : GoodK ms) {e : Int} (h : crossOf ks ms = some e) : asE ks ms = false ∧ 0 ≤ e ∧ e ≤ peopleOf ks ∧ isLess ks ms e (peopleOf ks) = true ∧ unAns ks ms (some [e, peopleOf ks]) = true := by
  obtain ⟨a, b, c⟩ := cross_some g h
  have p1 := g.people_pos
  have l : isLess ks ms e (peopleOf ks) = true := by
    unfold isLess
    unfold NoX at c
    rw [decide_eq_true]
    omega
  refine ⟨by rw [← asE_cross g g', h]; rfl, a, b, l, ?_⟩
  unfold unAns
  dsimp only
  rw [l, decide_eq_true ⟨a, b⟩, decide_eq_true (by omega)]
  rfl
def spCertO (C : Addr) : Sp := fun vs H Q _ => ∃ (r r2 : Addr) (ks ms : List Kind), vs = [.ref r, .ref r2] ∧ PurseAt C H r ks ∧ PurseAt C H r2 ms ∧ ∀ p H', Same H H' → OrdAt H' ks ms p → Q (.ref p) H'
def spAskO : Sp := fun vs H Q _ => ∃ (t u p : Addr) (ks ms : List Kind), vs = [.ref t, .ref u, .ref p] ∧ KindsAt H t ks ∧ GoodK ks ∧ KindsAt H u ms ∧ GoodK ms ∧ OrdAt H ks ms p ∧ ∀ H', Same H H' → Q (.bl true) H'
end Ev

set_option Elab.async false
set_option linter.all false
set_option maxRecDepth 100000
set_option maxHeartbeats 4000000
namespace Ev
open PySem PySem.Spec PyProof.Rows L2 TL
/-! ### what the laws of the fourth stage draw of rules -/
/-- the greatest beginning, value and step -/
def SzOk (x y z : Int) : Prop := 1 ≤ x ∧ x ≤ 10 ^ 29 ∧ 1 ≤ y ∧ y ≤ 10 ^ 32 ∧ 1 ≤ z ∧ z ≤ 1000
def SzAt (H : Hp) (s : Addr) (x y z : Int) : Prop := H s = some (.lst [.int x, .int y, .int z]) ∧ SzOk x y z
theorem SzAt.fw {H H' : Hp} {a s : Addr} {x y z : Int} (h : SzAt H s x y z) (ne : s ≠ a) (f : Fx a H H') : SzAt H' s x y z := ⟨f _ _ ne h.1, h.2⟩
theorem SzAt.same {H H' : Hp} {s : Addr} {x y z : Int} (h : SzAt H s x y z) (f : Same H H') : SzAt H' s x y z := ⟨f _ _ h.1, h.2⟩
/-- bands in a list -/
def BandsL (K : PySem.W.Frag) (H : Hp) (t : Addr) (bs : List Band) : Prop := ∃ rs : List Addr, SqL K H t (rs.map V.ref) ∧ rs.length = bs.length ∧ ∀ (i : Nat) r b, rs[i]? = some r → bs[i]? = some b → SqT K H r (bandT b)
def spLeftLs (K : PySem.W.Frag) : Sp := fun vs H Q _ => ∃ (t : Addr) (bs : List Band) (x : Int), vs = [.ref t, .int x] ∧ BandsL K H t bs ∧ Good bs ∧ 0 ≤ x ∧ ∀ H', Same H H' → Q (.int (leftOf bs x)) H'
def spGleft (K : PySem.W.Frag) : Sp := spOr spLeftBy (spLeftLs K)
def spGstarts : Sp := fun vs H Q _ => ∃ (a : Addr) (most top : Int) (n : Nat), vs = [.ref a, .int most, .int top] ∧ 1 ≤ most ∧ most ≤ 8 ∧ 1 ≤ top ∧ top ≤ 10 ^ 29 ∧ Wl n H a ∧ n ≤ 800000000 ∧
  ∀ (p : Addr) (ss : List Int) (H' : Hp), H p = none → Fx a H H' → H' p = some (.lst (ss.map V.int)) → Starts ss → ss.length ≤ most.toNat → (∀ s ∈ ss, s ≤ top) → Wl (n + 200) H' a → Q (.ref p) H'
def spGany : Sp := fun vs H Q _ => ∃ (a s : Addr) (most x y z : Int) (n : Nat), vs = [.ref a, .int most, .ref s] ∧ s ≠ a ∧ SzAt H s x y z ∧ 1 ≤ most ∧ most ≤ 8 ∧ Wl n H a ∧ n ≤ 700000000 ∧
  ∀ (t : Addr) (bs : List Band) (H' : Hp), H t = none → Fx a H H' → BandsAt H' t bs → Good bs → bs.length ≤ most.toNat → (∀ b ∈ bs, b.1 ≤ x) → Wl (n + 500) H' a → Q (.ref t) H'
/-- never falling -/
def NoFall (bs : List Band) : Prop := (∀ b ∈ bs, 0 ≤ b.2.2) ∧ ∀ (i : Nat) b c, bs[i]? = some b → bs[i + 1]? = some c → left1 b (c.1 - 1) ≤ c.2.1
def spGeven : Sp := fun vs H Q _ => ∃ (a s : Addr) (most x y z : Int) (n : Nat), vs = [.ref a, .int most, .ref s] ∧ s ≠ a ∧ SzAt H s x y z ∧ 1 ≤ most ∧ most ≤ 8 ∧ Wl n H a ∧ n ≤ 700000000 ∧
  ∀ (t : Addr) (bs : List Band) (H' : Hp), H t = none → Fx a H H' → BandsAt H' t bs → Good bs → NoFall bs → bs.length ≤ most.toNat → (∀ b ∈ bs, b.1 ≤ x) → Wl (n + 500) H' a → Q (.ref t) H'
def spGnear : Sp := fun vs H Q _ => ∃ (a s : Addr) (most x y z : Int) (n : Nat), vs = [.ref a, .int most, .ref s] ∧ s ≠ a ∧ SzAt H s x y z ∧ 1 ≤ most ∧ most ≤ 8 ∧ Wl n H a ∧ n ≤ 600000000 ∧
  ∀ (t : Addr) (bs : List Band) (H' : Hp), Fx a H H' → BandsAt H' t bs → Good bs → bs.length ≤ most.toNat → (∀ b ∈ bs, b.1 ≤ x) → Wl (n + 510) H' a → Q (.ref t) H'
def spGsizes : Sp := fun vs H Q _ => ∃ (a : Addr) (n : Nat), vs = [.ref a] ∧ Wl n H a ∧ n ≤ 900000000 ∧
  ∀ (s : Addr) (x y z : Int) (H' : Hp), s ≠ a → H s = none → Fx a H H' → SzAt H' s x y z → Wl (n + 1) H' a → Q (.ref s) H'
/-- a band over the drawn starts, not falling -/
structure UpOk (ss : List Int) (i : Nat) (b : Band) : Prop where
  at_ : ss[i]? = some b.1
  v0 : 0 ≤ b.2.1
  v1 : b.2.1 ≤ 10 ^ 32
  s0 : 0 ≤ b.2.2
  s1 : b.2.2 ≤ 1000
theorem good_up {ss : List Int} {bs : List Band} (st : Starts ss) (l1 : 1 ≤ bs.length) (l8 : bs.length ≤ 8) (h : ∀ (i : Nat) b, bs[i]? = some b → UpOk ss i b) : Good bs where
  len1 := l1
  len8 := l8
  first := fun b hb => by
    have e := (h 0 b hb).at_
    rw [st.first] at e
    exact (Option.some.inj e).symm
  rises := fun i b c hb hc => st.rises i _ _ (h i b hb).at_ (h (i + 1) c hc).at_
  start := fun b hb => by
    obtain ⟨i, hi⟩ := List.mem_iff_getElem?.mp hb
    exact st.most _ (List.mem_of_getElem? (h i b hi).at_)
  value := fun b hb => by
    obtain ⟨i, hi⟩ := List.mem_iff_getElem?.mp hb
    exact ⟨(h i b hi).v0, (h i b hi).v1⟩
  step := fun b hb => by
    obtain ⟨i, hi⟩ := List.mem_iff_getElem?.mp hb
    have := (h i b hi).s0
    exact ⟨by omega, (h i b hi).s1⟩
  ends := fun i b c hb hc n => by
    have := (h i b hb).s0
    omega
  last := fun i b hb hc => (h i b hb).s0
theorem inV_ints (x : Int) (ss : List Int) : inV (.int x) (ss.map V.int) = decide (x ∈ ss) := by
  rw [Bool.eq_iff_iff, decide_eq_true_iff]
  unfold inV
  rw [List.any_eq_true]
  constructor
  · rintro ⟨v, hv, e⟩
    obtain ⟨i, hi, rfl⟩ := List.mem_map.mp hv
    have := of_decide_eq_true e
    cases this
    exact hi
  · exact fun h => ⟨.int x, List.mem_map_of_mem h, decide_eq_true rfl⟩
end Ev

set_option Elab.async false
set_option linter.all false
set_option maxRecDepth 100000
set_option maxHeartbeats 4000000
namespace Ev
open PySem PySem.Spec PyProof.Rows L2 TL
/-! ### claims "more" -/
def spGpoints : Sp := fun vs H Q _ => ∃ (t u : Addr) (bs cs : List Band), vs = [.ref t, .ref u] ∧ BandsAt H t bs ∧ Good bs ∧ BandsAt H u cs ∧ Good cs ∧ ∀ p H' xs, H p = none → Same H H' → Spots bs cs xs → H' p = some (.lst (xs.map V.int)) → Q (.ref p) H'
/-- a break as the laws of the fourth stage look at it -/
def brkL (q : Quad) : Bool := (decide (q.2.2.1 = q.2.2.2) && decide (q.1 ≠ q.2.1)) || (decide (q.2.2.1 < q.2.2.2) && (decide (q.1 > q.2.1) || decide (q.1 * q.2.2.2 < q.2.1 * q.2.2.1)))
def firstL (bs cs : List Band) (xs : List Int) : Option Int := xs.find? fun x => brkL (quad bs cs x)
def spGbreaks : Sp := fun vs H Q _ => ∃ (t u : Addr) (bs cs : List Band), vs = [.ref t, .ref u] ∧ BandsAt H t bs ∧ Good bs ∧ BandsAt H u cs ∧ Good cs ∧ ∀ p H' xs, H p = none → Same H H' → Spots bs cs xs → H' p = some (.lst ((firstL bs cs xs).toList.map V.int)) → Q (.ref p) H'
def fallsL (bs : List Band) (xs : List Int) : List Int := (xs.filter fun x => decide (leftOf bs x > leftOf bs (x + 1))).take 1
def spGfalls : Sp := fun vs H Q _ => ∃ (t : Addr) (bs : List Band), vs = [.ref t] ∧ BandsAt H t bs ∧ Good bs ∧ ∀ p H' xs, H p = none → Same H H' → Spots bs bs xs → H' p = some (.lst ((fallsL bs xs).map V.int)) → Q (.ref p) H'
/-- what is due of a claim "more" -/
def moreAns (bs cs : List Band) (xs : List Int) : Bool := (firstTurn cs).isNone && (firstBrk bs cs xs).isNone
def spToldR (K : PySem.W.Frag) : Sp := fun vs H Q _ => ∃ (t : Addr) (bs cs : List Band), vs = [.ref t] ∧ SqT K H t [.str (pageOf bs), .str (pageOf cs)] ∧ Good bs ∧ Good cs ∧
  ∀ (q a b : Addr) H', Same H H' → H q = none → H' q = some (.lst [.ref a, .ref b]) → BandsAt H' a bs → BandsAt H' b cs → Q (.ref q) H'
def spMoreC (K : PySem.W.Frag) : Sp := fun vs H Q _ => ∃ (t : Addr) (v : V) (bs cs : List Band) (e : Bool), vs = [.ref t, v] ∧ SqT K H t [.str (pageOf bs), .str (pageOf cs)] ∧ Good bs ∧ Good cs ∧
  PapE K H v e ∧ ∀ H' b, Same H H' → (∀ xs, Spots bs cs xs → b = (e && moreAns bs cs xs)) → Q (.bl b) H'
def spGtwoR : Sp := fun vs H Q _ => ∃ (a : Addr) (n : Nat), vs = [.ref a] ∧ Wl n H a ∧ n ≤ 500000000 ∧
  ∀ (p t u : Addr) (bs cs : List Band) (H' : Hp), Fx a H H' → H' p = some (.tup [.ref t, .ref u]) → BandsAt H' t bs → BandsAt H' u cs → Good bs → Good cs → Wl (n + 1500) H' a → Q (.ref p) H'
/-- a share of what bands leave -/
def lessB (sh : Int) (bs : List Band) : List Band := bs.map fun b => (b.1, b.2.1 * sh / 100, b.2.2 * sh / 100)
theorem good_plainB : Good [(0, 0, 100)] := good_up starts_one (by decide) (by decide) (fun i b h => by
  match i, h with
  | 0, h => cases h; exact ⟨rfl, by decide, by decide, by decide, by decide⟩
  | i + 1, h => cases h)
theorem bands_of_rows {H : Hp} {t : Addr} {rs : List Addr} {bs : List Band} (R : RowsL bandT H rs bs) (h : H t = some (.tup (rs.map V.ref))) : BandsAt H t bs := ⟨rs, h, R.len, R.at_⟩
end Ev

set_option Elab.async false
set_option linter.all false
set_option maxRecDepth 100000
set_option maxHeartbeats 4000000
namespace Ev
open PySem PySem.Spec PyProof.Rows L2 TL
/-! ### claims "not more", and texts that are none -/
def badK : Str := "1 of 1 "
def spKindOfB : Sp := fun vs H Q _ => vs = [.str badK] ∧ ∀ H', Same H H' → Q .non H'
def spIsKindB : Sp := fun vs H Q _ => ∃ lo : Int, vs = [.non, .int lo] ∧ Q (.bl false) H
def spFirstB : Sp := fun vs H Q _ => ∃ t : Addr, vs = [.ref t] ∧ H t = some (.tup [.non]) ∧ ∀ H', Same H H' → Q (.int 0) H'
def spKindsB : Sp := fun vs H Q _ => vs = [.str badK] ∧ ∀ H', Same H H' → Q .non H'
/-- papers that should be the text of a purse -/
inductive PapK (K : PySem.W.Frag) (H : Hp) : V → Option (List Kind) → Prop where
  | sheet {ks : List Kind} (g : GoodK ks) : PapK K H (.str (sheetOf ks)) (some ks)
  | bad : PapK K H (.str badK) none
  | other {v : V} {T : String} (t : TyB K H v T) (n : T ≠ "str") : PapK K H v none
theorem PapK.same {K : PySem.W.Frag} {H H' : Hp} {v : V} {o : Option (List Kind)} (h : PapK K H v o) (s : Same H H') : PapK K H' v o := by
  cases h with
  | sheet g => exact .sheet g
  | bad => exact .bad
  | other t n => exact .other (tyb_same s t) n
def spToldV (K : PySem.W.Frag) : Sp := fun vs H Q _ => ∃ (v : V) (o : Option (List Kind)), vs = [v] ∧ PapK K H v o ∧ (o = none → ∀ H', Same H H' → Q .non H') ∧ ∀ ks, o = some ks → GoodK ks → ∀ t H', Same H H' → KindsAt H' t ks → Q (.ref t) H'
theorem PapK.good {K : PySem.W.Frag} {H : Hp} {v : V} {ks : List Kind} (h : PapK K H v (some ks)) : GoodK ks := by
  cases h with
  | sheet g => exact g
/-- what is due of a claim "not more" and a paper -/
def NotMore (bs cs : List Band) (o : Option (List Kind)) (b : Bool) : Prop := (o = none → b = false) ∧ ∀ ks, o = some ks → (¬ Incomes ks → b = false) ∧ (Incomes ks → ∀ ms ns, Bk bs ks ms → Bk cs ks ns → b = !asE ms ns)
def spNotMore (K : PySem.W.Frag) : Sp := fun vs H Q _ => ∃ (t : Addr) (v : V) (bs cs : List Band) (o : Option (List Kind)), vs = [.ref t, v] ∧ SqT K H t [.str (pageOf bs), .str (pageOf cs)] ∧ Good bs ∧ Good cs ∧
  PapK K H v o ∧ (∀ ks, o = some ks → peopleOf ks ≤ 10 ^ 72) ∧ ∀ H' b, Same H H' → NotMore bs cs o b → Q (.bl b) H'
def spKindsBehindR : Sp := fun vs H Q _ => ∃ (t u : Addr) (bs : List Band) (ks : List Kind), vs = [.ref t, .ref u] ∧ BandsAt H t bs ∧ Good bs ∧ KindsAt H u ks ∧ GoodK ks ∧ ∀ p H' ms, Same H H' → KindsAt H' p ms → Bk bs ks ms → Q (.ref p) H'
def spGbehind : Sp := fun vs H Q _ => ∃ (t u : Addr) (bs : List Band) (ks : List Kind), vs = [.ref t, .ref u] ∧ BandsAt H t bs ∧ Good bs ∧ KindsAt H u ks ∧ GoodK ks ∧ ∀ p H' ms, Same H H' → KindsAt H' p ms → Bk bs ks ms → Q (.ref p) H'
def spGtries : Sp := fun vs H Q _ => ∃ (a t u : Addr) (bs cs : List Band) (n : Nat), vs = [.ref a, .ref t, .ref u] ∧ Wl n H a ∧ n ≤ 500000000 ∧ BandsAt H t bs ∧ Good bs ∧ BandsAt H u cs ∧ Good cs ∧
  ∀ p H' ks, Fx a H H' → KindsAt H' p ks → GoodK ks → Incomes ks → peopleOf ks ≤ 10 ^ 72 → Wl (n + 1100) H' a → Q (.ref p) H'
def spGasked80 : Sp := fun vs H Q _ => ∃ (a t u : Addr) (bs cs : List Band) (n : Nat), vs = [.ref a, .ref t, .ref u] ∧ Wl n H a ∧ n ≤ 400000000 ∧ BandsAt H t bs ∧ Good bs ∧ BandsAt H u cs ∧ Good cs ∧ ∀ H', Fx a H H' → Wl (n + 4500) H' a → Q (.bl true) H'
theorem rows_two {α : Type} {f : α → List V} {H : Hp} {r1 r2 : Addr} {a b : α} (h1 : H r1 = some (.tup (f a))) (h2 : H r2 = some (.tup (f b))) : RowsL f H [r1, r2] [a, b] := ⟨rfl, fun i r c e1 e2 => by
  match i, e1, e2 with
  | 0, e1, e2 => cases e1; cases e2; exact h1
  | 1, e1, e2 => cases e1; cases e2; exact h2
  | i + 2, e1, _ => cases e1⟩
end Ev

set_option Elab.async false
set_option linter.all false
set_option maxRecDepth 100000
set_option maxHeartbeats 4000000
namespace Ev
open PySem PySem.Spec PyProof.Rows L2 TL PySem.Builtin PySem.Builtin.Str PySem.StrLaws
/-! ### the law's own reading of the texts of purses -/
def spGnumber : Sp := fun vs H Q _ => ∃ i : Int, vs = [.str (nI i)] ∧ 0 ≤ i ∧ i.natAbs < 10 ^ 75 ∧ ∀ p H', H p = none → Same H H' → H' p = some (.lst [.int i]) → Q (.ref p) H'
def spGread : Sp := fun vs H Q _ => ∃ ks : List Kind, vs = [.str (sheetOf ks)] ∧ GoodK ks ∧ ∀ p H', Same H H' → KindsAt H' p ks → Q (.ref p) H'
/-! ### certified evening -/
def spGshows : Sp := fun vs H Q _ => ∃ (t u : Addr) (bs cs : List Band) (ks : List Kind), vs = [.ref t, .ref u, .str (sheetOf ks)] ∧ BandsAt H t bs ∧ Good bs ∧ BandsAt H u cs ∧ Good cs ∧ GoodK ks ∧ Incomes ks ∧ peopleOf ks ≤ 10 ^ 72 ∧
  ∀ H' ms ns, Same H H' → Bk bs ks ms → Bk cs ks ns → Q (.bl (!asE ms ns)) H'
def spNotMoreS (K : PySem.W.Frag) : Sp := fun vs H Q _ => ∃ (t : Addr) (bs cs : List Band) (ks : List Kind), vs = [.ref t, .str (sheetOf ks)] ∧ SqT K H t [.str (pageOf bs), .str (pageOf cs)] ∧ Good bs ∧ Good cs ∧
  GoodK ks ∧ Incomes ks ∧ peopleOf ks ≤ 10 ^ 72 ∧ ∀ H' ms ns, Same H H' → Bk bs ks ms → Bk cs ks ns → Q (.bl (!asE ms ns)) H'
def spAcc3 (K : PySem.W.Frag) : Sp := spOr (spAccepts "accepts_more" (spMoreC K)) (spAccepts "accepts_not_more" (spNotMoreS K))
def spJud3 (K : PySem.W.Frag) : Sp := spOr (spJudged "accepts_more" (spMoreC K)) (spJudged "accepts_not_more" (spNotMoreS K))
def shownK (bs cs : List Band) (x : Int) : List Kind := [(x, 1), (x + 1, manyOf (quad bs cs x))]
/-- what is told of two rules: at c the claim, q its certificate -/
def EvAt (H : Hp) (bs cs : List Band) (xs : List Int) (p : Addr) : Prop := ∃ (c : Addr) (q : V), H p = some (.tup [.ref c, q]) ∧
  ((firstBrk bs cs xs = none ∧ H c = some (.tup [.str "more", .str (pageOf bs), .str (pageOf cs)]) ∧ ∃ z, q = .ref z ∧ H z = some (.tup [])) ∨
   ∃ x, firstBrk bs cs xs = some x ∧ H c = some (.tup [.str "not more", .str (pageOf bs), .str (pageOf cs)]) ∧ q = .str (sheetOf (shownK bs cs x)))
theorem EvAt.same {H H' : Hp} {bs cs : List Band} {xs : List Int} {p : Addr} (h : EvAt H bs cs xs p) (s : Same H H') : EvAt H' bs cs xs p := by
  obtain ⟨c, q, h1, h2⟩ := h
  exact ⟨c, q, s _ _ h1, h2.elim (fun ⟨a, b, z, e, hz⟩ => .inl ⟨a, s _ _ b, z, e, s _ _ hz⟩) fun ⟨x, a, b, e⟩ => .inr ⟨x, a, s _ _ b, e⟩⟩
def spCertE (C : Addr) : Sp := fun vs H Q _ => ∃ (r : Addr) (v : V) (bs cs : List Band), vs = [.ref r, v] ∧ RuleAt C H r bs ∧ Other C H v cs ∧ ∀ p H' xs, Same H H' → Spots bs cs xs → EvAt H' bs cs xs p → Q (.ref p) H'
def spAskE : Sp := fun vs H Q _ => ∃ (t u p : Addr) (bs cs : List Band) (xs : List Int), vs = [.ref t, .ref u, .ref p] ∧ BandsAt H t bs ∧ Good bs ∧ BandsAt H u cs ∧ Good cs ∧ firstTurn cs = none ∧ Spots bs cs xs ∧ EvAt H bs cs xs p ∧ ∀ H', Same H H' → Q (.bl true) H'
theorem fit_more : Fit (.str ("more" : Str)) 70002 1 := fit_str (n := 7000) (by decide +kernel) (by decide +kernel)
theorem fit_notmore : Fit (.str ("not more" : Str)) 70002 1 := fit_str (n := 7000) (by decide +kernel) (by decide +kernel)
theorem show_pages {w : Str} {bs cs : List Band} (hw : Fit (.str w) 70002 1) (g : Good bs) (g' : Good cs) : isDisplay (.tuple [.str w, .str (pageOf bs), .str (pageOf cs)]) = true ∧ (PyData.tuple [.str w, .str (pageOf bs), .str (pageOf cs)]).showable = true ∧ (PyData.tuple [.str w, .str (pageOf bs), .str (pageOf cs)]).hasDict = false ∧ (PyData.tuple [.str w, .str (pageOf bs), .str (pageOf cs)]).depth ≤ 150 ∧ (PyData.tuple [.str w, .str (pageOf bs), .str (pageOf cs)]).shown.length ≤ sizeLine := by
  have fp : ∀ {ds : List Band}, Good ds → Fit (.str (pageOf ds)) 70002 1 := fun gd => fit_str (n := 7000) (page_lt _) (Nat.le_trans gd.page_len (by decide))
  exact show_tuple (n := 70002) (d := 1) (by simp) (fits_cons hw (fits_cons (fp g) (fits_cons (fp g') fits_nil))) (by decide) (by show 3 * (70002 + 2) ≤ _; decide)
theorem shown_facts {bs cs : List Band} (g : Good bs) (g' : Good cs) (up : firstTurn cs = none) {xs : List Int} (sp : Spots bs cs xs) {x : Int} (h : firstBrk bs cs xs = some x) :
    GoodK (shownK bs cs x) ∧ Incomes (shownK bs cs x) ∧ peopleOf (shownK bs cs x) ≤ 10 ^ 72 ∧ ∀ ms ns, Bk bs (shownK bs cs x) ms → Bk cs (shownK bs cs x) ns → asE ms ns = false := by
  obtain ⟨x0, x1, m0, m1, no⟩ := first_shows g g' up sp h
  have m2 : manyOf (quad bs cs x) ≤ 10 ^ 71 := Int.le_trans m1 (by decide)
  have gk : GoodK (shownK bs cs x) := good_pair x0 (by omega) (by omega) (by omega) (by omega) m0 (by omega)
  have hi : Incomes (shownK bs cs x) := fun k hk => by
    simp only [shownK, List.mem_cons, List.not_mem_nil, or_false] at hk
    rcases hk with e | e <;> (rw [e]; show _ ≤ (10 : Int) ^ 30; omega)
  have pk : peopleOf (shownK bs cs x) ≤ 10 ^ 72 := by
    simp only [shownK, peopleOf, List.map_cons, List.map_nil, List.sum_cons, List.sum_nil]
    omega
  refine ⟨gk, hi, pk, fun ms ns b1 b2 => ?_⟩
  have gm := b1.good g gk hi pk
  have gn := b2.good g' gk hi pk
  have l := no ms ns b1 b2 gm gn
  rw [Bool.eq_false_iff]
  intro z
  have := (lawE_iff gm gn).mpr ((asE_iff gm gn).mp z)
  rw [l] at this
  cases this
end Ev

set_option Elab.async false
set_option linter.all false
set_option maxRecDepth 100000
set_option maxHeartbeats 4000000
namespace Ev
open PySem PySem.Spec PyProof.Rows L2 TL
/-! ### stretches where one leaves more -/
def inW (w : Win) (x : Int) : Prop := w.1 ≤ x ∧ ∀ l, w.2 = some l → x ≤ l
def below (s : Option Int) (x : Int) : Prop := ∀ e, s = some e → x < e
structure StrTo (d : Int → Int) (s : Option Int) (ws : List Win) : Prop where
  low : ∀ w ∈ ws, 0 ≤ w.1
  ne : ∀ w ∈ ws, ∀ l, w.2 = some l → w.1 ≤ l
  pos : ∀ w ∈ ws, ∀ x, inW w x → 0 < d x
  before : ∀ w ∈ ws, w.1 = 0 ∨ d (w.1 - 1) ≤ 0
  after : ∀ w ∈ ws, ∀ l, w.2 = some l → below s (l + 1) → d (l + 1) ≤ 0
  fin : ∀ w ∈ ws, ∀ x, inW w x → below s x
  sep : ws.Pairwise fun v w => ∃ l, v.2 = some l ∧ l + 2 ≤ w.1
  out : ∀ x, 0 ≤ x → below s x → 0 < d x → ∃ w ∈ ws, inW w x
/-- where the difference is linear: the part above -/
def partOf (first : Int) (last : Option Int) (ahead growth : Int) : Option Win :=
  if ahead > 0 then
    if growth ≥ 0 then some (first, last)
    else some (first, some (match last with | none => first + (ahead - 1) / -growth | some l => if l < first + (ahead - 1) / -growth then l else first + (ahead - 1) / -growth))
  else if growth ≤ 0 then none
  else match last with
    | none => some (first + -ahead / growth + 1, none)
    | some l => if l < first + -ahead / growth + 1 then none else some (first + -ahead / growth + 1, some l)
/-- within from first to last -/
def within (first : Int) (last : Option Int) (x : Int) : Prop := first ≤ x ∧ ∀ l, last = some l → x ≤ l
structure PartOk (d : Int → Int) (first : Int) (last : Option Int) (p : Option Win) : Prop where
  no : p = none → ∀ x, within first last x → d x ≤ 0
  yes : ∀ w, p = some w → first ≤ w.1 ∧ (∀ l, w.2 = some l → w.1 ≤ l) ∧ (∀ x, within first last x → (0 < d x ↔ inW w x)) ∧ (∀ x, inW w x → within first last x)
/-- the last one goes on, or another one begins -/
def joinW (ws : List Win) (w : Win) : List Win := match ws.getLast? with
  | some v => if v.2 = some (w.1 - 1) then ws.dropLast ++ [(v.1, w.2)] else ws ++ [w]
  | none => ws ++ [w]
/-- the parts above, start by start -/
def partsL (d : Int → Int) : List Int → List Win
  | [] => []
  | a :: r => (partOf a (r.head?.map (· - 1)) (d a) (d (a + 1) - d a)).toList ++ partsL d r
def strsOf (d : Int → Int) (ss : List Int) : List Win := (partsL d ss).foldl joinW []
/-- what one leaves more than the other -/
def ahead (bs cs : List Band) (x : Int) : Int := leftOf bs x - leftOf cs x
end Ev

set_option Elab.async false
set_option linter.all false
set_option maxRecDepth 100000
set_option maxHeartbeats 4000000
namespace Ev
open PySem PySem.Spec PyProof.Rows L2 TL
def spAheadAt : Sp := fun vs H Q _ => ∃ (t u : Addr) (bs cs : List Band) (x : Int), vs = [.ref t, .ref u, .int x] ∧ BandsAt H t bs ∧ Good bs ∧ BandsAt H u cs ∧ Good cs ∧ 0 ≤ x ∧ ∀ H', Same H H' → Q (.int (ahead bs cs x)) H'
def spPartAbove : Sp := fun vs H Q _ => ∃ (first a g : Int) (last : Option Int), vs = [.int first, optV last, .int a, .int g] ∧ a.natAbs < 2 ^ 900 ∧ g.natAbs < 2 ^ 900 ∧
  ∀ H', Same H H' → (partOf first last a g = none → Q .non H') ∧ ∀ w, partOf first last a g = some w → ∀ p, H p = none → H' p = some (.tup (winT w)) → Q (.ref p) H'
def spPartsAbove : Sp := fun vs H Q _ => ∃ (t u : Addr) (bs cs : List Band), vs = [.ref t, .ref u] ∧ BandsAt H t bs ∧ Good bs ∧ BandsAt H u cs ∧ Good cs ∧ ∀ p H' ss, Same H H' → StartsOf bs cs ss → LRowsAt winT H' p (partsL (ahead bs cs) ss) → Q (.ref p) H'
def spStretches : Sp := fun vs H Q _ => ∃ (t u : Addr) (bs cs : List Band), vs = [.ref t, .ref u] ∧ BandsAt H t bs ∧ Good bs ∧ BandsAt H u cs ∧ Good cs ∧ ∀ p H' ss, Same H H' → StartsOf bs cs ss → RowsAt winT H' p (strsOf (ahead bs cs) ss) → Q (.ref p) H'
def spAbove (C : Addr) : Sp := fun vs H Q _ => ∃ (r r2 : Addr) (bs cs : List Band), vs = [.ref r, .ref r2] ∧ RuleAt C H r bs ∧ RuleAt C H r2 cs ∧ ∀ p H' ss, Same H H' → StartsOf bs cs ss → RowsAt winT H' p (strsOf (ahead bs cs) ss) → Q (.ref p) H'
def spLeaves (C : Addr) : Sp := fun vs H Q _ => ∃ (r r2 : Addr) (bs cs : List Band), vs = [.ref r, .ref r2] ∧ RuleAt C H r bs ∧ RuleAt C H r2 cs ∧ ∀ H' ss, Same H H' → StartsOf cs bs ss → Q (.bl (decide (strsOf (ahead cs bs) ss = []))) H'
def spPair : Sp := fun vs H Q _ => ∃ (a : Addr) (n : Nat), vs = [.ref a] ∧ Vt n H a ∧ n ≤ 700000000 ∧
  ∀ (p t u : Addr) (bs cs : List Band) (H' : Hp), Fx a H H' → H' p = some (.lst [.ref t, .ref u]) → BandsAt H' t bs → Good bs → BandsAt H' u cs → Good cs → Vt (n + 500) H' a → Q (.ref p) H'
def spIsAbove : Sp := fun vs H Q _ => ∃ (t u : Addr) (bs cs : List Band) (x : Int), vs = [.ref t, .ref u, .int x] ∧ BandsAt H t bs ∧ Good bs ∧ BandsAt H u cs ∧ Good cs ∧ ∀ H', Same H H' → Q (.bl (decide (0 ≤ x) && decide (0 < ahead bs cs x))) H'
/-- ends not too far -/
def WinB (w : Win) : Prop := w.1 ≤ 2 ^ 125 ∧ ∀ l, w.2 = some l → l ≤ 2 ^ 125
def spEndsRight : Sp := fun vs H Q _ => ∃ (a t u p : Addr) (bs cs : List Band) (ws : List Win) (n : Nat), vs = [.ref a, .ref t, .ref u, .ref p] ∧ Vt n H a ∧ n ≤ 700000000 ∧ BandsAt H t bs ∧ Good bs ∧ BandsAt H u cs ∧ Good cs ∧ RowsAt winT H p ws ∧ ws.length ≤ 40 ∧ StrTo (ahead bs cs) none ws ∧ (∀ w ∈ ws, WinB w) ∧
  ∀ H', Fx a H H' → Vt (n + 100) H' a → Q (.bl true) H'
def spOutside : Sp := fun vs H Q _ => ∃ (p : Addr) (ws : List Win) (x : Int), vs = [.ref p, .int x] ∧ RowsAt winT H p ws ∧ ws.length ≤ 40 ∧ ∀ H' b, Same H H' → (b = true → ∀ w ∈ ws, ¬ inW w x) → Q (.bl b) H'
/-- the end of the part that begins at the i-th start -/
def endOf (ss : List Int) (i : Nat) : Option Int := (ss[i + 1]?).map (· - 1)
def partAt (d : Int → Int) (ss : List Int) (i : Nat) : Option Win := (ss[i]?).bind fun a => partOf a (endOf ss i) (d a) (d (a + 1) - d a)
def partsI (d : Int → Int) (ss : List Int) (n : Nat) : List Win := (List.range n).flatMap fun i => (partAt d ss i).toList
theorem StartsOf.len1 {bs cs : List Band} (g : Good bs) {ss : List Int} (s : StartsOf bs cs ss) : 1 ≤ ss.length := by
  obtain ⟨b0, hb0⟩ : ∃ b, bs[0]? = some b := ⟨_, List.getElem?_eq_getElem (by have := g.len1; omega)⟩
  have := (s.mem b0.1).mpr ⟨b0, List.mem_append_left _ (List.mem_of_getElem? hb0), rfl⟩
  exact List.length_pos_of_mem this
def inB (w : Win) (x : Int) : Bool := decide (w.1 ≤ x) && (match w.2 with
  | none => true
  | some l => decide (x ≤ l))
/-- values and steps as the laws draw them -/
def Drawn (bs : List Band) : Prop := ∀ b ∈ bs, b.2.1 ≤ 9 * 10 ^ 31 ∧ b.2.2 ≤ 200
def spBandsT : Sp := fun vs H Q _ => ∃ (a : Addr) (most reach : Int) (n : Nat), vs = [.ref a, .int most, .int reach] ∧ 1 ≤ most ∧ most ≤ 4 ∧ 1 ≤ reach ∧ reach ≤ 10 ^ 28 ∧ Vt n H a ∧ n ≤ 900000000 ∧
  ∀ (t : Addr) (bs : List Band) (H' : Hp), H t = none → Fx a H H' → BandsAt H' t bs → Pre bs → Drawn bs → Vt (n + 100) H' a → Q (.ref t) H'
def spWideT : Sp := fun vs H Q _ => ∃ (a : Addr) (n : Nat), vs = [.ref a] ∧ Vt n H a ∧ n ≤ 800000000 ∧
  ∀ (t : Addr) (bs : List Band) (H' : Hp), H t = none → Fx a H H' → BandsAt H' t bs → Good bs → Drawn bs → Vt (n + 200) H' a → Q (.ref t) H'
end Ev

set_option Elab.async false
set_option linter.all false
set_option maxRecDepth 100000
set_option maxHeartbeats 4000000
namespace Ev
open PySem PySem.Spec PyProof.Rows L2
/-! ### rules told over K, for a comprehension's block -/
def rLenK (K : PySem.W.Frag) : List V → Hp → VK → Prop := fun xs H Q => ∃ p ys, xs = [.ref p] ∧ (SqL K H p ys ∨ SqT K H p ys) ∧ Q (.int (ys.length : Nat)) H
end Ev

set_option Elab.async false
set_option linter.all false
set_option maxRecDepth 100000
set_option maxHeartbeats 4000000
namespace Ev
open PySem PySem.Spec PyProof.Rows L2 TL
/-! ### no steps greater than the other's -/
def smooth (q : Quad) : Bool := decide (0 ≤ q.2.1 - q.1) && decide (q.2.1 - q.1 ≤ q.2.2.2 - q.2.2.1)
/-! ### the k lowest and the mean -/
def closerAt (n : Int) (S T P Q : Int) (k : Int) : Bool := !decide (k * S - n * P > k * T - n * Q)
/-- what the law asks of two ascending lists -/
def closerOf (L M : List Int) : Bool := (List.range (L.length + 1)).all fun k => closerAt L.length L.sum M.sum (L.take k).sum (M.take k).sum k
/-- the row that shows a greater step -/
def steepRow (x : Int) : List Int := List.replicate 4 x ++ [x + 1]
end Ev

set_option Elab.async false
set_option linter.all false
set_option maxRecDepth 100000
set_option maxHeartbeats 4000000
namespace Ev
open PySem PySem.Spec PyProof.Rows L2 TL
def spEvDiff (C : Addr) : Sp := fun vs H Q _ => ∃ (r : Addr) (v : V) (bs cs : List Band), vs = [.ref r, v] ∧ RuleAt C H r bs ∧ Other C H v cs ∧ ∀ H' xs, Same H H' → Spots bs cs xs → Q (.bl (xs.all fun x => smooth (quad bs cs x))) H'
/-! ### rows of incomes -/
structure LL (H : Hp) (rs : List Addr) (rows : List (List Int)) : Prop where
  len : rs.length = rows.length
  at_ : ∀ (i : Nat) r L, rs[i]? = some r → rows[i]? = some L → H r = some (.lst (L.map V.int))
section
variable {H H' : Hp} {rs ss : List Addr} {xs ys : List (List Int)}
theorem LL.same (h : LL H rs xs) (s : Same H H') : LL H' rs xs := ⟨h.len, fun i r b h1 h2 => s _ _ (h.at_ i r b h1 h2)⟩
theorem LL.nil : LL H [] [] := ⟨rfl, fun i r b h => by cases h⟩
theorem LL.one {r : Addr} {b : List Int} (h : H r = some (.lst (b.map V.int))) : LL H [r] [b] := ⟨rfl, fun i r' b' h1 h2 => by
  match i, h1, h2 with
  | 0, h1, h2 => cases h1; cases h2; exact h
  | i + 1, h1, h2 => cases h1⟩
theorem LL.app (h : LL H rs xs) (h' : LL H ss ys) : LL H (rs ++ ss) (xs ++ ys) := by
  refine ⟨by rw [List.length_append, List.length_append, h.len, h'.len], fun i r b h1 h2 => ?_⟩
  by_cases c : i < rs.length
  · rw [List.getElem?_append_left c] at h1
    rw [List.getElem?_append_left (by rw [← h.len]; exact c)] at h2
    exact h.at_ i r b h1 h2
  · rw [List.getElem?_append_right (by omega)] at h1
    rw [List.getElem?_append_right (by rw [← h.len]; omega), ← h.len] at h2
    exact h'.at_ _ r b h1 h2
theorem LL.snoc {r : Addr} {b : List Int} (h : LL H rs xs) (hr : H r = some (.lst (b.map V.int))) : LL H (rs ++ [r]) (xs ++ [b]) := h.app (LL.one hr)
theorem LL.at {i : Nat} {v : V} (h : LL H rs xs) (hi : (rs.map V.ref)[i]? = some v) : ∃ r L, v = .ref r ∧ xs[i]? = some L ∧ H r = some (.lst (L.map V.int)) := by
  rw [List.getElem?_map] at hi
  obtain ⟨r, hr, rfl⟩ := Option.map_eq_some_iff.mp hi
  have il := (List.getElem?_eq_some_iff.mp hr).1
  have hx : xs[i]? = some (xs[i]'(by rw [← h.len]; exact il)) := List.getElem?_eq_getElem _
  exact ⟨r, _, rfl, hx, h.at_ i r _ hr hx⟩
end
def RowsI (H : Hp) (p : Addr) (rows : List (List Int)) : Prop := ∃ rs : List Addr, H p = some (.lst (rs.map V.ref)) ∧ LL H rs rows
theorem RowsI.same {H H' : Hp} {p : Addr} {rows : List (List Int)} (h : RowsI H p rows) (s : Same H H') : RowsI H' p rows := by
  obtain ⟨rs, h1, h2⟩ := h
  exact ⟨rs, s _ _ h1, h2.same s⟩
/-- an ascending row of incomes -/
structure GoodRow (m : Int) (row : List Int) : Prop where
  up : row.Pairwise (· ≤ ·)
  nn : ∀ x ∈ row, 0 ≤ x
  most : ∀ x ∈ row, x ≤ m
theorem GoodRow.nil {m : Int} : GoodRow m [] := ⟨.nil, fun x h => (by cases h), fun x h => (by cases h)⟩
theorem GoodRow.snoc {m x : Int} {row : List Int} (g : GoodRow m row) (h : ∀ y, row.getLast? = some y → y ≤ x) (x0 : 0 ≤ x) (x1 : x ≤ m) : GoodRow m (row ++ [x]) := by
  refine ⟨List.pairwise_append.mpr ⟨g.up, List.pairwise_singleton _ _, fun a ha b hb => ?_⟩, fun y hy => ?_, fun y hy => ?_⟩
  · rw [List.mem_singleton.mp hb]
    cases e : row.getLast? with
    | none => rw [List.getLast?_eq_none_iff.mp e] at ha; cases ha
    | some l =>
      have hl := h l e
      obtain ⟨t, rfl⟩ := List.getLast?_eq_some_iff.mp e
      rcases List.mem_append.mp ha with m1 | m1
      · have := (List.pairwise_append.mp g.up).2.2 a m1 l (by simp)
        omega
      · rw [List.mem_singleton.mp m1]; exact hl
  · rcases List.mem_append.mp hy with m1 | m1
    · exact g.nn y m1
    · rw [List.mem_singleton.mp m1]; exact x0
  · rcases List.mem_append.mp hy with m1 | m1
    · exact g.most y m1
    · rw [List.mem_singleton.mp m1]; exact x1
theorem GoodRow.mono {m n : Int} {row : List Int} (g : GoodRow m row) (h : m ≤ n) : GoodRow n row := ⟨g.up, g.nn, fun x hx => by have := g.most x hx; omega⟩
def preS (L : List Int) : List Int := (List.range (L.length + 1)).map fun k => (L.take k).sum
def spShares : Sp := fun vs H Q _ => ∃ (p : Addr) (L : List Int), vs = [.ref p] ∧ H p = some (.lst (L.map V.int)) ∧ L.length ≤ 1000 ∧
  ∀ q H' M, H q = none → Same H H' → M.Perm L → M.Pairwise (· ≤ ·) → H' q = some (.lst ((preS M).map V.int)) → Q (.ref q) H'
def spRowsL : Sp := fun vs H Q _ => ∃ (size most : Nat), vs = [.int (size : Int), .int (most : Int)] ∧ (most + 1) ^ size ≤ 100000 ∧ size ≤ 10 ∧ most ≤ 100 ∧
  ∀ q H' rows, Same H H' → RowsI H' q rows → rows.length ≤ (most + 1) ^ size → (∀ row ∈ rows, row.length = size ∧ GoodRow most row) → Q (.ref q) H'
def spRowsHere : Sp := fun vs H Q _ => vs = [] ∧
  ∀ q H' rows, Same H H' → RowsI H' q rows → rows.length ≤ 10000 → (∀ row ∈ rows, row.length ≤ 40 ∧ GoodRow 20 row) → (∀ x : Int, 0 ≤ x → x < 15 → steepRow x ∈ rows) → Q (.ref q) H'
/-! ### readings that give a new list of ints -/
def GivesI (σ : L2.St) (t : TE) (L : List Int) : Prop := ∀ (H : Hp) (Q : VK), (∀ p H', Same H H' → H' p = some (.lst (L.map V.int)) → Q (.ref p) H') → t σ H Q
def GivesN (σ : L2.St) (t : TE) (x : Int) : Prop := ∀ (H : Hp) (Q : VK), Q (.int x) H → t σ H Q
theorem GivesI.one {σ : L2.St} {t : TE} {x : Int} (h : GivesN σ t x) : GivesI σ (tLst (tCons t tNil)) [x] := fun H Q q => h H _ ⟨(by show 1 ≤ sizeLine; decide), fun p hp => q p _ (same_new hp) upd_same⟩
theorem GivesI.two {σ : L2.St} {t u : TE} {x y : Int} (h : GivesN σ t x) (h' : GivesN σ u y) : GivesI σ (tLst (tCons t (tCons u tNil))) [x, y] := fun H Q q => h H _ (h' H _ ⟨(by show 2 ≤ sizeLine; decide), fun p hp => q p _ (same_new hp) upd_same⟩)
theorem rep_ints (n : Nat) (x : Int) : (List.replicate n [V.int x]).flatten = (List.replicate n x).map V.int := by
  rw [List.map_replicate]
  induction n with
  | zero => rfl
  | succ n ih => rw [List.replicate_succ, List.flatten_cons, ih, List.replicate_succ]; rfl
theorem GivesI.rep {σ : L2.St} {t u : TE} {x : Int} {n : Nat} (h : GivesI σ t [x]) (hn : n ≤ 100000) (h' : GivesN σ u n) : GivesI σ (tOp rRep t u) (List.replicate n x) := fun H Q q => h H _ fun p H1 s1 h1 => h' H1 _ ⟨p, _, [.int x], rfl, rfl, h1, by omega, by omega, by rw [sizeLine_eq]; show 1 * _ ≤ _; omega, fun m hm => by
  rw [Int.toNat_natCast, rep_ints]
  exact q m _ (s1.trans (same_new hm)) upd_same⟩
theorem GivesI.cat {σ : L2.St} {t u : TE} {L M : List Int} (h : GivesI σ t L) (h' : GivesI σ u M) (hl : L.length + M.length ≤ 100000) : GivesI σ (tOp rCat t u) (L ++ M) := fun H Q q => h H _ fun p H1 s1 h1 => h' H1 _ fun p2 H2 s2 h2 => ⟨p, p2, _, _, rfl, rfl, s2 _ _ h1, h2, by rw [List.length_map, List.length_map, sizeLine_eq]; omega, fun m hm => q m _ (s1.trans (s2.trans (same_new hm))) (by rw [upd_same, List.map_append])⟩
def spCloser : Sp := fun vs H Q _ => ∃ (p q : Addr) (L M : List Int), vs = [.ref p, .ref q] ∧ H p = some (.lst (L.map V.int)) ∧ H q = some (.lst (M.map V.int)) ∧ L.length = M.length ∧ L.length ≤ 100 ∧
  ∀ H' b, Same H H' → (L.Pairwise (· ≤ ·) → M.Pairwise (· ≤ ·) → b = closerOf L M) → Q (.bl b) H'
end Ev

set_option Elab.async false
set_option linter.all false
set_option maxRecDepth 100000
set_option maxHeartbeats 4000000
namespace Ev
open PySem PySem.Spec PyProof.Rows L2 TL
/-! ### // by any number but 0 -/
def CDivN (_ j : Int) : Prop := j ≠ 0 ∧ j.natAbs.log2 < 9000
/-! ### views: both leave so much more -/
def more2 (s : Int) (q : Quad) : Quad := (q.1 + s, q.2.1 + s, q.2.2.1 + s, q.2.2.2 + s)
def aheadQ (q : Quad) : Int := q.1 * q.2.2.2 - q.2.1 * q.2.2.1
def growQ (q : Quad) : Int := q.2.2.2 - q.2.2.1 - (q.2.1 - q.1)
abbrev View : Type := Int × Option Int
def viewsOf (q : Quad) : Option View :=
  if q.2.2.1 = q.2.2.2 then (if q.1 = q.2.1 then some (0, none) else none)
  else if q.1 > q.2.1 then none
  else if growQ q > 0 then some ((if -(aheadQ q / growQ q) > 0 then -(aheadQ q / growQ q) else 0), none)
  else if aheadQ q < 0 then none
  else some (0, if growQ q < 0 then some (aheadQ q / -growQ q) else none)
def inV' (v : View) (s : Int) : Prop := v.1 ≤ s ∧ ∀ h, v.2 = some h → s ≤ h
def vStep (a v : View) : View := (if v.1 > a.1 then v.1 else a.1, match a.2 with
  | none => v.2
  | some l => match v.2 with
    | none => some l
    | some h => if h < l then some h else some l)
def vFold : List Quad → View → Option View
  | [], a => some a
  | q :: r, a => match viewsOf q with
    | none => none
    | some v => vFold r (vStep a v)
def viewsAns (qs : List Quad) : Option View := match vFold qs (0, none) with
  | none => none
  | some r => match r.2 with
    | none => some r
    | some l => if l < r.1 then none else some r
def goodView (qs : List Quad) (s : Int) : Prop := ∀ q ∈ qs, brk (more2 s q) = false
/-! ### how great they get -/
end Ev

set_option Elab.async false
set_option linter.all false
set_option maxRecDepth 100000
set_option maxHeartbeats 4000000
namespace Ev
open PySem PySem.Spec PyProof.Rows L2 TL
end Ev

set_option Elab.async false
set_option linter.all false
set_option maxRecDepth 100000
set_option maxHeartbeats 4000000
namespace Ev
open PySem PySem.Spec PyProof.Rows L2 TL
/-- v is what views tells -/
def ViewAt (H : Hp) (v : V) (o : Option View) : Prop := (o = none ∧ v = .non) ∨ ∃ w p, o = some w ∧ v = .ref p ∧ H p = some (.tup (winT w))
theorem ViewAt.same {H H' : Hp} {v : V} {o : Option View} (h : ViewAt H v o) (s : Same H H') : ViewAt H' v o := by
  rcases h with h | ⟨w, p, h1, h2, h3⟩
  · exact .inl h
  · exact .inr ⟨w, p, h1, h2, s _ _ h3⟩
theorem ViewAt.isNone {H : Hp} {v : V} {o : Option View} (h : ViewAt H v o) : decide (v = V.non) = o.isNone := by
  rcases h with ⟨rfl, rfl⟩ | ⟨w, p, rfl, rfl, _⟩
  · rfl
  · exact decide_eq_false (fun e => by cases e)
def viewD : Option View → PyData
  | none => .none
  | some w => winD w
theorem ViewAt.dp {K : PySem.W.Frag} {H : Hp} {v : V} {o : Option View} (h : ViewAt H v o) : Dp K H v (viewD o) := by
  rcases h with ⟨rfl, rfl⟩ | ⟨w, p, rfl, rfl, h⟩
  · exact .non
  · exact dp_win h
def viewTxt : Option View → Str
  | none => "None"
  | some w => (winD w).shown
def FitV (o : Option View) : Prop := ∀ w, o = some w → w.1.natAbs < 10 ^ 120 ∧ ∀ l, w.2 = some l → l.natAbs < 10 ^ 120
def SmallQ (q : Quad) : Prop := q.1.natAbs < 2 ^ 120 ∧ q.2.1.natAbs < 2 ^ 120 ∧ q.2.2.1.natAbs < 2 ^ 120 ∧ q.2.2.2.natAbs < 2 ^ 120
theorem vFold_nil (a : View) : vFold [] a = some a := rfl
theorem vFold_go {q : Quad} {r : List Quad} {a v : View} (e : viewsOf q = some v) : vFold (q :: r) a = vFold r (vStep a v) := by
  show (match viewsOf q with | none => none | some v => vFold r (vStep a v)) = _
  rw [e]
theorem vFold_stop {q : Quad} {r : List Quad} {a : View} (e : viewsOf q = none) : vFold (q :: r) a = none := by
  show (match viewsOf q with | none => none | some v => vFold r (vStep a v)) = _
  rw [e]
def spViewsOf (K : PySem.W.Frag) : Sp := fun vs H Q _ => ∃ (p : Addr) (q : Quad), vs = [.ref p] ∧ SqT K H p (quadT q) ∧ SmallQ q ∧ ∀ v H', Same H H' → ViewAt H' v (viewsOf q) → Q v H'
def spViews (C : Addr) : Sp := fun vs H Q _ => ∃ (r : Addr) (v : V) (bs cs : List Band), vs = [.ref r, v] ∧ RuleAt C H r bs ∧ Other C H v cs ∧ ∀ u H' xs, Same H H' → Spots bs cs xs → ViewAt H' u (viewsAns (xs.map (quad bs cs))) → Q u H'
def goodB (qs : List Quad) (s : Int) : Bool := qs.all fun q => !brk (more2 s q)
def spByView : Sp := fun vs H Q _ => ∃ (t u : Addr) (bs cs : List Band) (m : Int), vs = [.ref t, .ref u, .int m] ∧ BandsAt H t bs ∧ Good bs ∧ BandsAt H u cs ∧ Good cs ∧ m.natAbs ≤ 2 ^ 300 ∧ ∀ H' xs, Same H H' → Spots bs cs xs → Q (.bl (goodB (xs.map (quad bs cs)) m)) H'
/-! ### rules as the laws draw them, of at most four bands -/
def spBandsE4 : Sp := fun vs H Q _ => ∃ (a : Addr) (most reach : Int) (n : Nat), vs = [.ref a, .int most, .int reach] ∧ 1 ≤ most ∧ most ≤ 4 ∧ 1 ≤ reach ∧ reach ≤ 10 ^ 28 ∧ Vt n H a ∧ n ≤ 900000000 ∧
  ∀ (t : Addr) (bs : List Band) (H' : Hp), H t = none → Fx a H H' → BandsAt H' t bs → Pre bs → bs.length ≤ 4 → Vt (n + 100) H' a → Q (.ref t) H'
def spWide4 : Sp := fun vs H Q _ => ∃ (a : Addr) (n : Nat), vs = [.ref a] ∧ Vt n H a ∧ n ≤ 800000000 ∧
  ∀ (t : Addr) (bs : List Band) (H' : Hp), H t = none → Fx a H H' → BandsAt H' t bs → Good bs → bs.length ≤ 4 → Vt (n + 200) H' a → Q (.ref t) H'
def spKept4 : Sp := fun vs H Q _ => ∃ (a : Addr) (n : Nat), vs = [.ref a] ∧ Vt n H a ∧ n ≤ 800000000 ∧
  ∀ (t : Addr) (bs : List Band) (H' : Hp), H t = none → Fx a H H' → BandsAt H' t bs → Good bs → firstTurn bs = none → bs.length ≤ 4 → Vt (n + 200) H' a → Q (.ref t) H'
def spBegins : Sp := fun vs H Q _ => ∃ (t u : Addr) (bs cs : List Band), vs = [.ref t, .ref u] ∧ BandsAt H t bs ∧ Good bs ∧ BandsAt H u cs ∧ Good cs ∧ bs.length ≤ 4 ∧ cs.length ≤ 4 ∧ ∀ (p : Addr) (H' : Hp) (ns : List Int), Same H H' → H' p = some (.lst (ns.map V.int)) → ns.length ≤ 200 → (∀ n ∈ ns, 0 ≤ n ∧ n.natAbs ≤ 2 ^ 300) → Q (.ref p) H'
def spSmooth : Sp := fun vs H Q _ => ∃ (t u : Addr) (bs cs : List Band), vs = [.ref t, .ref u] ∧ BandsAt H t bs ∧ Good bs ∧ BandsAt H u cs ∧ Good cs ∧ ∀ H' xs, Same H H' → Spots bs cs xs → Q (.bl (xs.all fun x => smooth (quad bs cs x))) H'
def spStretch (K : PySem.W.Frag) : Sp := fun vs H Q _ => ∃ (a t u p : Addr) (bs cs : List Band) (xs : List Int) (w : View) (n : Nat), vs = [.ref a, .ref t, .ref u, .ref p] ∧ Vt n H a ∧ n ≤ 700000000 ∧ BandsAt H t bs ∧ Good bs ∧ BandsAt H u cs ∧ Good cs ∧ Spots bs cs xs ∧ H p = some (.tup (winT w)) ∧
  0 ≤ w.1 ∧ w.1 ≤ 2 ^ 250 ∧ (∀ l, w.2 = some l → w.1 ≤ l ∧ l ≤ 2 ^ 250) ∧ (∀ s, 0 ≤ s → (goodB (xs.map (quad bs cs)) s = true ↔ inV' w s)) ∧ ∀ H', Fx a H H' → Vt (n + 20) H' a → Q (.bl true) H'
end Ev

set_option Elab.async false
set_option linter.all false
set_option maxRecDepth 100000
set_option maxHeartbeats 4000000
namespace Ev
open PySem PySem.Spec PyProof.Rows L2 TL
/-! ### rules of one band, or of two -/
theorem left_one {v s x : Int} (h : 0 ≤ x) : leftOf [(0, v, s)] x = v + s * x := by
  unfold leftOf left1
  simp [h]
theorem left_lo {v s e v' s' x : Int} (h : 0 ≤ x) (h2 : x < e) : leftOf [(0, v, s), (e, v', s')] x = v + s * x := by
  unfold leftOf left1
  have : ¬ e ≤ x := by omega
  simp [h, this]
theorem left_hi {v s e v' s' x : Int} (h : 0 ≤ x) (h2 : e ≤ x) : leftOf [(0, v, s), (e, v', s')] x = v' + s' * (x - e) := by
  unfold leftOf left1
  simp [h, h2]
theorem spots_one (v s v' s' : Int) : Spots [(0, v, s)] [(0, v', s')] [0] := ⟨by simp, fun x => by
  unfold IsSpot
  simp⟩
theorem spots_two {e : Int} (h : 2 ≤ e) (v s v1 s1 v' s' : Int) : Spots [(0, v, s), (e, v1, s1)] [(0, v', s')] [0, e - 1, e] := ⟨by
  have h1 : (0 : Int) < e - 1 := by omega
  have h2 : (0 : Int) < e := by omega
  have h3 : e - 1 < e := by omega
  have h4 : 1 < e := by omega
  simp [h1, h2, h3, h4], fun x => by
  unfold IsSpot
  simp
  omega⟩
theorem spots_two1 (v s v1 s1 v' s' : Int) : Spots [(0, v, s), (1, v1, s1)] [(0, v', s')] [0, 1] := ⟨by simp, fun x => by
  unfold IsSpot
  simp
  omega⟩
theorem quad_one (v s v' s' : Int) : quad [(0, v, s)] [(0, v', s')] 0 = (v, v + s, v', v' + s') := by
  unfold quad
  rw [left_one (by omega), left_one (by omega), left_one (by omega), left_one (by omega)]
  simp
theorem brk_no {a b c d : Int} (h : c < d) (h1 : a ≤ b) (h2 : b * c ≤ a * d) : brk (a, b, c, d) = false := by
  unfold brk
  dsimp only
  rw [if_neg (by omega), decide_eq_false (by omega), decide_eq_false (by omega)]
  rfl
theorem brk_yes {a b c d : Int} (h : c < d) (h2 : a * d < b * c) : brk (a, b, c, d) = true := by
  unfold brk
  dsimp only
  rw [if_neg (by omega), decide_eq_true h2, Bool.or_true]
theorem brk_falls {a b c d : Int} (h : c < d) (h2 : b < a) : brk (a, b, c, d) = true := by
  unfold brk
  dsimp only
  rw [if_neg (by omega), decide_eq_true (show a > b from h2), Bool.true_or]
theorem brk_same {a b c : Int} : brk (a, b, c, c) = decide (a ≠ b) := by
  unfold brk
  dsimp only
  rw [if_pos rfl]
/-- no break, and no lump wanted -/
structure Still (q : Quad) : Prop where
  up : q.2.2.1 < q.2.2.2
  ok : q.1 ≤ q.2.1
  less : q.2.1 * q.2.2.1 ≤ q.1 * q.2.2.2
theorem Still.brk {q : Quad} (h : Still q) : brk q = false := brk_no h.up h.ok h.less
theorem Still.turned {q : Quad} (h : Still q) : ¬ turned q := by
  have := h.up
  have := h.ok
  unfold Ev.turned
  omega
theorem Still.lump {q : Quad} (h : Still q) {l : Int} (h0 : 0 ≤ l) : lumpUp q l = l := by
  have u := h.up
  unfold lumpUp
  rw [if_pos u, if_neg]
  have := (ceil_le (a := q.2.1 * q.2.2.1 - q.1 * q.2.2.2) (d := q.2.2.2 - q.2.2.1) (l := l) (by omega)).mpr (by
    have := h.less
    have : 0 ≤ l * (q.2.2.2 - q.2.2.1) := Int.mul_nonneg h0 (by omega)
    omega)
  unfold ceilOf
  omega
theorem Still.view {q : Quad} (h : Still q) : viewsOf q = some (0, if growQ q < 0 then some (aheadQ q / -growQ q) else none) := by
  have u := h.up
  have o := h.ok
  have l := h.less
  have al : 0 ≤ aheadQ q := by unfold aheadQ; omega
  unfold viewsOf
  rw [if_neg (by omega), if_neg (by omega)]
  by_cases g : growQ q > 0
  · rw [if_pos g, if_neg (show ¬ growQ q < 0 by omega)]
    have : 0 ≤ aheadQ q / growQ q := Int.ediv_nonneg al (by omega)
    rw [if_neg (by omega)]
  · rw [if_neg g, if_neg (by omega)]
theorem Still.wide {q : Quad} (h : Still q) (g : 0 ≤ growQ q) : viewsOf q = some (0, none) := by
  rw [h.view, if_neg (by omega)]
theorem step_wide (a : View) (h : 0 ≤ a.1) : vStep a (0, none) = a := by
  obtain ⟨a1, a2⟩ := a
  unfold vStep
  dsimp only at h ⊢
  rw [if_neg (by omega)]
  cases a2 <;> rfl
/-! ### one band: the lump law -/
structure LumpAns (lump step : Int) : Prop where
  first : firstBrk [(0, lump, step)] [(0, 0, 100)] [0] = none
  win : winOf (fun x => brk (quad [(0, lump, step)] [(0, 0, 100)] x)) [0] = [(0, none)]
  least : lumpOf ([0].map (quad [(0, lump, step)] [(0, 0, 100)])) 0 = some 0
  view : viewsAns ([0].map (quad [(0, lump, step)] [(0, 0, 100)])) = some (0, if step ≤ 100 then none else some (lump * 100 / (step - 100)))
  diff : ([0].all fun x => smooth (quad [(0, lump, step)] [(0, 0, 100)] x)) = decide (step ≤ 100)
/-! ### a calm beginning -/
def Calm (q : Quad) : Prop := Still q ∧ 0 ≤ growQ q
theorem lumpOf_calm : ∀ {ps r : List Quad} {l : Int}, (∀ q ∈ ps, Calm q) → 0 ≤ l → lumpOf (ps ++ r) l = lumpOf r l
  | [], _, _, _, _ => rfl
  | q :: ps, r, l, h, l0 => by
    have hq := (h q List.mem_cons_self).1
    rw [List.cons_append, lumpOf, if_neg hq.turned, hq.lump l0]
    exact lumpOf_calm (fun q hq => h q (List.mem_cons_of_mem _ hq)) l0
theorem vFold_calm : ∀ {ps r : List Quad} {a : View}, (∀ q ∈ ps, Calm q) → 0 ≤ a.1 → vFold (ps ++ r) a = vFold r a
  | [], _, _, _, _ => rfl
  | q :: ps, r, a, h, a0 => by
    have hq := h q List.mem_cons_self
    rw [List.cons_append, vFold_go (hq.1.wide hq.2), step_wide a a0]
    exact vFold_calm (fun q hq => h q (List.mem_cons_of_mem _ hq)) a0
/-! ### the plain rule, and another step from e on -/
theorem free_q {e s x : Int} (x0 : 0 ≤ x) (xe : x < e) : quad [(0, 0, 100), (e, 100 * e, s)] [(0, 0, 100)] x = (100 * x, 100 * x + 100, 100 * x, 100 * x + 100) := by
  unfold quad
  rw [left_lo x0 xe, left_one x0, left_one (x := x + 1) (by omega)]
  by_cases c : x + 1 < e
  · rw [left_lo (by omega) c]
    simp
    omega
  · rw [left_hi (by omega) (by omega), show x + 1 - e = 0 by omega, show e = x + 1 by omega]
    simp
    omega
theorem free_calm {e s x : Int} (x0 : 0 ≤ x) (xe : x < e) : Calm (quad [(0, 0, 100), (e, 100 * e, s)] [(0, 0, 100)] x) := by
  rw [free_q x0 xe]
  refine ⟨⟨by show 100 * x < 100 * x + 100; omega, by show 100 * x ≤ 100 * x + 100; omega, by show (100 * x + 100) * (100 * x) ≤ 100 * x * (100 * x + 100); rw [Int.mul_comm]; exact Int.le_refl _⟩, ?_⟩
  show 0 ≤ 100 * x + 100 - 100 * x - (100 * x + 100 - 100 * x)
  omega
theorem free_at {e s : Int} (h : 1 ≤ e) : quad [(0, 0, 100), (e, 100 * e, s)] [(0, 0, 100)] e = (100 * e, 100 * e + s, 100 * e, 100 * e + 100) := by
  unfold quad
  rw [left_hi (by omega) (Int.le_refl _), left_hi (by omega) (by omega), left_one (by omega), left_one (by omega), show e - e = 0 by omega, show e + 1 - e = 1 by omega]
  simp
  omega
structure FreeAns (e s : Int) (xs : List Int) : Prop where
  first : firstBrk [(0, 0, 100), (e, 100 * e, s)] [(0, 0, 100)] xs = if s ≤ 100 then none else some e
  win : winOf (fun x => brk (quad [(0, 0, 100), (e, 100 * e, s)] [(0, 0, 100)] x)) xs = if s ≤ 100 then [(0, none)] else [(0, some e)]
  least : 100 < s → lumpOf (xs.map (quad [(0, 0, 100), (e, 100 * e, s)] [(0, 0, 100)])) 0 = some ((s - 100) * e)
  view : s ≤ 100 → viewsAns (xs.map (quad [(0, 0, 100), (e, 100 * e, s)] [(0, 0, 100)])) = some (0, none)
  diff : (xs.all fun x => smooth (quad [(0, 0, 100), (e, 100 * e, s)] [(0, 0, 100)] x)) = decide (s ≤ 100)
theorem free_ans {e s : Int} (h : 1 ≤ e) (s0 : 0 ≤ s) {xs : List Int} (sp : Spots [(0, 0, 100), (e, 100 * e, s)] [(0, 0, 100)] xs) : FreeAns e s xs := by
  obtain ⟨ps, rfl, hp, hw⟩ : ∃ ps, xs = ps ++ [e] ∧ (∀ x ∈ ps, 0 ≤ x ∧ x < e) ∧ ∀ b : Int → Bool, (∀ x ∈ ps, b x = false) → winsOf b ps = ([], some 0) := by
    by_cases c : e = 1
    · subst c
      refine ⟨[0], sp.unique (spots_two1 ..), fun x hx => by rw [List.mem_singleton.mp hx]; omega, fun b hb => ?_⟩
      simp [winsOf, winStep, hb 0 List.mem_cons_self]
    · refine ⟨[0, e - 1], sp.unique (spots_two (by omega) ..), fun x hx => by
        simp only [List.mem_cons, List.not_mem_nil, or_false] at hx
        omega, fun b hb => ?_⟩
      simp [winsOf, winStep, hb 0 List.mem_cons_self, hb (e - 1) (by simp)]
  have calm : ∀ q ∈ ps.map (quad [(0, 0, 100), (e, 100 * e, s)] [(0, 0, 100)]), Calm q := fun q hq => by
    obtain ⟨x, hx, rfl⟩ := List.mem_map.mp hq
    exact free_calm (hp x hx).1 (hp x hx).2
  have nob : ∀ x ∈ ps, brk (quad [(0, 0, 100), (e, 100 * e, s)] [(0, 0, 100)] x) = false := fun x hx => (calm _ (List.mem_map_of_mem hx)).1.brk
  have at_ := free_at (s := s) h
  have m1 : (100 * e + s) * (100 * e) = 100 * e * (100 * e) + s * (100 * e) := Int.add_mul ..
  have m2 : 100 * e * (100 * e + 100) = 100 * e * (100 * e) + 100 * (100 * e) := by rw [Int.mul_add, Int.mul_comm (100 * e) 100]
  have bk : brk (quad [(0, 0, 100), (e, 100 * e, s)] [(0, 0, 100)] e) = decide (100 < s) := by
    rw [at_]
    by_cases c : 100 < s
    · rw [decide_eq_true c]
      refine brk_yes (by omega) ?_
      rw [m1, m2]
      have : 100 * (100 * e) < s * (100 * e) := Int.mul_lt_mul_of_pos_right c (by omega)
      omega
    · rw [decide_eq_false c]
      refine brk_no (by omega) (by omega) ?_
      rw [m1, m2]
      have : s * (100 * e) ≤ 100 * (100 * e) := Int.mul_le_mul_of_nonneg_right (by omega) (by omega)
      omega
  refine ⟨?_, ?_, fun c => ?_, fun c => ?_, ?_⟩
  · unfold firstBrk
    rw [List.find?_append, List.find?_eq_none.mpr (fun x hx => by rw [nob x hx]; exact Bool.false_ne_true), Option.none_or, List.find?_cons, bk]
    by_cases c : s ≤ 100
    · rw [if_pos c, decide_eq_false (by omega)]
      rfl
    · rw [if_neg c, decide_eq_true (by omega)]
  · have w := wins_snoc (fun x => brk (quad [(0, 0, 100), (e, 100 * e, s)] [(0, 0, 100)] x)) ps e
    rw [hw _ nob] at w
    unfold winOf
    rw [w]
    by_cases c : s ≤ 100
    · have bk' := bk.trans (decide_eq_false (show ¬ 100 < s by omega))
      simp [winStep, bk', c]
    · have bk' := bk.trans (decide_eq_true (show 100 < s by omega))
      simp [winStep, bk', c]
  · rw [List.map_append, lumpOf_calm calm (Int.le_refl _), List.map_cons, List.map_nil, at_, lumpOf, if_neg, lumpOf]
    · unfold lumpUp
      dsimp only
      rw [if_pos (by omega)]
      have e1 : ceilOf (100 * e, 100 * e + s, 100 * e, 100 * e + 100) = (s - 100) * e := by
        unfold ceilOf
        dsimp only
        rw [m1, m2, show 100 * e + 100 - 100 * e = 100 by omega, show -(100 * e * (100 * e) + s * (100 * e) - (100 * e * (100 * e) + 100 * (100 * e))) = -((s - 100) * e) * 100 by grind]
        rw [Int.mul_ediv_cancel _ (by decide)]
        omega
      rw [e1]
      have : 0 ≤ (s - 100) * e := Int.mul_nonneg (by omega) (by omega)
      split
      · rfl
      · congr 1
        omega
    · unfold turned
      dsimp only
      omega
  · unfold viewsAns
    rw [List.map_append, vFold_calm calm (Int.le_refl _), List.map_cons, List.map_nil, at_]
    have st : Still (100 * e, 100 * e + s, 100 * e, 100 * e + 100) := ⟨by show 100 * e < 100 * e + 100; omega, by show 100 * e ≤ 100 * e + s; omega, by
      show (100 * e + s) * (100 * e) ≤ 100 * e * (100 * e + 100)
      rw [m1, m2]
      have : s * (100 * e) ≤ 100 * (100 * e) := Int.mul_le_mul_of_nonneg_right (by omega) (by omega)
      omega⟩
    rw [vFold_go (st.wide (by show 0 ≤ 100 * e + 100 - 100 * e - (100 * e + s - 100 * e); omega)), step_wide _ (Int.le_refl _), vFold_nil]
  · rw [List.all_append, List.all_cons, List.all_nil, Bool.and_true]
    have e1 : (ps.all fun x => smooth (quad [(0, 0, 100), (e, 100 * e, s)] [(0, 0, 100)] x)) = true := List.all_eq_true.mpr fun x hx => by
      rw [free_q (hp x hx).1 (hp x hx).2]
      unfold smooth
      dsimp only
      rw [decide_eq_true (by omega), decide_eq_true (by omega)]
      rfl
    rw [e1, Bool.true_and, at_]
    unfold smooth
    dsimp only
    rw [decide_eq_true (show 0 ≤ 100 * e + s - 100 * e by omega), Bool.true_and]
    apply decide_eq_decide.mpr
    omega
/-! ### a cliff -/
theorem cliff_q {e m : Int} (h : 2 ≤ e) : quad [(0, 0, 100), (e, m, 100)] [(0, 0, 100)] 0 = (0, 100, 0, 100) ∧ quad [(0, 0, 100), (e, m, 100)] [(0, 0, 100)] (e - 1) = (100 * (e - 1), m, 100 * (e - 1), 100 * e) ∧ quad [(0, 0, 100), (e, m, 100)] [(0, 0, 100)] e = (m, m + 100, 100 * e, 100 * e + 100) := by
  unfold quad
  refine ⟨?_, ?_, ?_⟩
  · rw [left_lo (by omega) (by omega), left_lo (by omega) (by omega), left_one (by omega), left_one (by omega)]
    rfl
  · rw [left_lo (by omega) (by omega), left_hi (by omega) (by omega), left_one (by omega), left_one (by omega), show e - 1 + 1 - e = 0 by omega, show e - 1 + 1 = e by omega]
    simp
  · rw [left_hi (by omega) (Int.le_refl _), left_hi (by omega) (by omega), left_one (by omega), left_one (by omega), show e - e = 0 by omega, show e + 1 - e = 1 by omega]
    simp
    omega
theorem zero_calm : Calm (0, 100, 0, 100) := ⟨⟨by decide, by decide, by decide⟩, by decide⟩
structure UpAns (e z : Int) (bs : List Band) (xs : List Int) : Prop where
  first : firstBrk bs [(0, 0, 100)] xs = some (e - 1)
  win : winOf (fun x => brk (quad bs [(0, 0, 100)] x)) xs = [(0, some (e - 1)), (e, none)]
  least : lumpOf (xs.map (quad bs [(0, 0, 100)])) 0 = some (z * (e - 1))
  diff : (xs.all fun x => smooth (quad bs [(0, 0, 100)] x)) = false
structure DownAns (e : Int) (bs : List Band) (xs : List Int) : Prop where
  first : firstBrk bs [(0, 0, 100)] xs = some (e - 1)
  least : lumpOf (xs.map (quad bs [(0, 0, 100)])) 0 = none
  view : viewsAns (xs.map (quad bs [(0, 0, 100)])) = none
  diff : (xs.all fun x => smooth (quad bs [(0, 0, 100)] x)) = false
theorem down_ans {e z : Int} (h : 2 ≤ e) (z0 : 1 ≤ z) {xs : List Int} (sp : Spots [(0, 0, 100), (e, 100 * (e - 1) - z, 100)] [(0, 0, 100)] xs) : DownAns e [(0, 0, 100), (e, 100 * (e - 1) - z, 100)] xs := by
  obtain rfl := sp.unique (spots_two h ..)
  obtain ⟨q0, q1, q2⟩ := cliff_q (m := 100 * (e - 1) - z) h
  have b0 := zero_calm.1.brk
  have b1 : brk (100 * (e - 1), 100 * (e - 1) - z, 100 * (e - 1), 100 * e) = true := brk_falls (by omega) (by omega)
  refine ⟨?_, ?_, ?_, ?_⟩
  · unfold firstBrk
    rw [List.find?_cons, q0, b0, List.find?_cons, q1, b1]
  · rw [List.map_cons, List.map_cons, q0, q1, lumpOf, if_neg zero_calm.1.turned, lumpOf, if_pos]
    unfold turned
    dsimp only
    omega
  · unfold viewsAns
    rw [List.map_cons, List.map_cons, q0, q1, vFold_go (zero_calm.1.wide zero_calm.2), step_wide _ (Int.le_refl _), vFold_stop]
    unfold viewsOf
    dsimp only
    rw [if_neg (by omega), if_pos (by omega)]
  · rw [List.all_cons, List.all_cons, q0, q1]
    have : smooth (100 * (e - 1), 100 * (e - 1) - z, 100 * (e - 1), 100 * e) = false := by
      unfold smooth
      dsimp only
      rw [decide_eq_false (show ¬ 0 ≤ 100 * (e - 1) - z - 100 * (e - 1) by omega), Bool.false_and]
    rw [this, Bool.false_and, Bool.and_false]
/-! ### two rules of one band -/
theorem two_first {f l g h : Int} (l0 : 0 ≤ l) (h0 : 0 ≤ h) : (firstBrk [(0, f, l)] [(0, g, h)] [0]).isNone = if h > 0 then decide (h * f ≥ l * g) else decide (l = 0) := by
  have e : (firstBrk [(0, f, l)] [(0, g, h)] [0]).isNone = !brk (f, f + l, g, g + h) := by
    unfold firstBrk
    rw [List.find?_cons, quad_one]
    cases brk (f, f + l, g, g + h) <;> rfl
  rw [e]
  by_cases c : h > 0
  · rw [if_pos c]
    have m1 : (f + l) * g = f * g + l * g := Int.add_mul ..
    have m2 : f * (g + h) = f * g + h * f := by rw [Int.mul_add, Int.mul_comm f h]
    by_cases d : h * f ≥ l * g
    · rw [brk_no (by omega) (by omega) (by rw [m1, m2]; omega), decide_eq_true d]
      rfl
    · rw [brk_yes (by omega) (by rw [m1, m2]; omega), decide_eq_false d]
      rfl
  · rw [if_neg c]
    obtain rfl : h = 0 := by omega
    rw [Int.add_zero, brk_same]
    by_cases d : l = 0
    · subst d
      simp
    · rw [decide_eq_true (show f ≠ f + l by omega), decide_eq_false d]
      rfl
def spGreatE : Sp := fun vs H Q _ => ∃ (a : Addr) (n : Nat), vs = [.ref a] ∧ Vt n H a ∧ n ≤ 800000000 ∧ ∀ r H', 0 ≤ r → r ≤ 10 ^ 30 → Fx a H H' → Vt (n + 10) H' a → Q (.int r) H'
def spStep : Sp := fun vs H Q _ => ∃ (a : Addr) (n : Nat), vs = [.ref a] ∧ Vt n H a ∧ n ≤ 1000 ∧ ∀ H', Fx a H H' → Vt (n + 40) H' a → Q (.bl true) H'
end Ev

set_option Elab.async false
set_option linter.all false
set_option maxRecDepth 100000
set_option maxHeartbeats 4000000
namespace Ev
open PySem PySem.Spec PyProof.Rows L2 TL
/-! ### no neighbours break it, so none far apart do -/
structure Tilts (f g : Int → Int) : Prop where
  nf : ∀ x, 0 ≤ x → 0 ≤ f x
  ng : ∀ x, 0 ≤ x → 0 ≤ g x
  up : ∀ x, 0 ≤ x → f x ≤ f (x + 1)
  gup : ∀ x, 0 ≤ x → g x ≤ g (x + 1)
  flat : ∀ x, 0 ≤ x → g x = g (x + 1) → f x = f (x + 1)
  tilt : ∀ x, 0 ≤ x → f (x + 1) * g x ≤ f x * g (x + 1)
theorem Tilts.far {f g : Int → Int} (t : Tilts f g) : ∀ (n : Nat) {x : Int}, 0 ≤ x → f x ≤ f (x + n) ∧ g x ≤ g (x + n) ∧ (g x = g (x + n) → f x = f (x + n)) ∧ f (x + n) * g x ≤ f x * g (x + n)
  | 0, x, x0 => by simp
  | n + 1, x, x0 => by
    obtain ⟨i1, i2, i3, i4⟩ := t.far n x0
    have y0 : 0 ≤ x + (n : Int) := by omega
    have u1 := t.up _ y0
    have u2 := t.gup _ y0
    have u3 := t.flat _ y0
    have u4 := t.tilt _ y0
    have e : x + ((n + 1 : Nat) : Int) = x + n + 1 := by omega
    rw [e]
    have nf0 := t.nf x x0
    have ng0 := t.ng x x0
    have nfy := t.nf _ y0
    have ngy := t.ng _ y0
    have ngz := t.ng (x + n + 1) (by omega)
    generalize f x = F at *
    generalize g x = G at *
    generalize f (x + n) = F1 at *
    generalize g (x + n) = G1 at *
    generalize f (x + n + 1) = F2 at *
    generalize g (x + n + 1) = G2 at *
    refine ⟨by omega, by omega, fun z => ?_, ?_⟩
    · have := i3 (by omega)
      have := u3 (by omega)
      omega
    · by_cases z : G1 = 0
      · have : G = 0 := by omega
        rw [this, Int.mul_zero]
        exact Int.mul_nonneg nf0 ngz
      · -- multiply by G1
        have p1 := Int.mul_le_mul_of_nonneg_right i4 ngz
        have p2 := Int.mul_le_mul_of_nonneg_right u4 ng0
        have e1 : F1 * G * G2 = F1 * G2 * G := by grind
        have e2 : F2 * G1 * G = F2 * G * G1 := by grind
        have e3 : F * G1 * G2 = F * G2 * G1 := by grind
        have p3 : F2 * G * G1 ≤ F * G2 * G1 := by omega
        exact Int.le_of_mul_le_mul_right p3 (by omega)
theorem Tilts.le {f g : Int → Int} (t : Tilts f g) {x y : Int} (x0 : 0 ≤ x) (xy : x ≤ y) : f x ≤ f y ∧ g x ≤ g y ∧ (g x = g y → f x = f y) ∧ f y * g x ≤ f x * g y := by
  have := t.far (y - x).toNat x0
  rwa [show x + ((y - x).toNat : Int) = y by omega] at this
/-! ### person by person -/
/-- what the law asks of two ascending lists of amounts -/
def evenRow (L M : List Int) : Bool := if L.sum = 0 then true else if M.sum = 0 then (List.range (L.length + 1)).all fun k => decide ((L.take k).sum * M.length ≥ k * L.sum)
  else (List.range (L.length + 1)).all fun k => decide ((L.take k).sum * M.sum ≥ (M.take k).sum * L.sum)
end Ev

set_option Elab.async false
set_option linter.all false
set_option maxRecDepth 100000
set_option maxHeartbeats 4000000
namespace Ev
open PySem PySem.Spec PyProof.Rows L2 TL
/-! ### incomes put in that say nothing new -/
inductive Ins (R : Int → Int → Prop) : List Int → List Int → Prop
  | nil : Ins R [] []
  | both (x : Int) {xs ys : List Int} : Ins R xs ys → Ins R (x :: xs) (x :: ys)
  | more {x y : Int} {xs ys : List Int} : R x y → Ins R (x :: xs) (x :: ys) → Ins R (x :: xs) (x :: y :: ys)
theorem ins_of {R : Int → Int → Prop} : ∀ {ys xs : List Int} {x : Int}, (x :: xs).Pairwise (· < ·) → (x :: ys).Pairwise (· < ·) → (∀ z ∈ xs, z ∈ ys) →
    (∀ y ∈ ys, y ∉ xs → ∃ s ∈ x :: xs, s ≤ y ∧ (∀ z ∈ x :: xs, z ≤ y → z ≤ s) ∧ R s y) → Ins R (x :: xs) (x :: ys)
  | [], xs, x, _, _, h, _ => by
    cases xs with
    | nil => exact .both x .nil
    | cons z zs => exact absurd (h z List.mem_cons_self) (by simp)
  | y :: ys, xs, x, px, py, h, hR => by
    obtain ⟨px1, px2⟩ := List.pairwise_cons.mp px
    obtain ⟨py1, py2⟩ := List.pairwise_cons.mp py
    obtain ⟨py3, py4⟩ := List.pairwise_cons.mp py2
    by_cases m : y ∈ xs
    · obtain ⟨zs, rfl⟩ : ∃ zs, xs = y :: zs := by
        cases xs with
        | nil => cases m
        | cons z zs =>
          refine ⟨zs, ?_⟩
          rcases List.mem_cons.mp m with e | m'
          · rw [e]
          · have h1 := (List.pairwise_cons.mp px2).1 y m'
            rcases List.mem_cons.mp (h z List.mem_cons_self) with e | m2
            · rw [e] at h1
              exact absurd h1 (by omega)
            · have := py3 z m2
              omega
      obtain ⟨pz1, pz2⟩ := List.pairwise_cons.mp px2
      refine .both x (ins_of px2 py2 (fun z hz => ?_) fun w hw nw => ?_)
      · rcases List.mem_cons.mp (h z (List.mem_cons_of_mem _ hz)) with e | m2
        · have := pz1 z hz
          omega
        · exact m2
      · have hyw := py3 w hw
        obtain ⟨s, hs, h1, h2, h3⟩ := hR w (List.mem_cons_of_mem _ hw) (fun q => by
          rcases List.mem_cons.mp q with e | m2
          · omega
          · exact nw m2)
        refine ⟨s, ?_, h1, fun z hz => h2 z (List.mem_cons_of_mem _ hz), h3⟩
        rcases List.mem_cons.mp hs with e | m2
        · have := h2 y (List.mem_cons_of_mem _ List.mem_cons_self) (by omega)
          have := px1 y List.mem_cons_self
          omega
        · exact m2
    · have xy := py1 y List.mem_cons_self
      have pw : (x :: ys).Pairwise (· < ·) := List.pairwise_cons.mpr ⟨fun w hw => py1 w (List.mem_cons_of_mem _ hw), py4⟩
      have gt : ∀ z ∈ xs, y < z := fun z hz => by
        rcases List.mem_cons.mp (h z hz) with e | m2
        · rw [e] at hz
          exact absurd hz m
        · exact py3 z m2
      have r : R x y := by
        obtain ⟨s, hs, h1, h2, h3⟩ := hR y List.mem_cons_self m
        rcases List.mem_cons.mp hs with e | m2
        · rw [← e]
          exact h3
        · have := gt s m2
          omega
      refine .more r (ins_of px pw (fun z hz => ?_) fun w hw nw => hR w (List.mem_cons_of_mem _ hw) nw)
      rcases List.mem_cons.mp (h z hz) with e | m2
      · rw [e] at hz
        exact absurd hz m
      · exact m2
theorem Ins.find {R : Int → Int → Prop} {b : Int → Bool} (hR : ∀ x y, R x y → b y = b x) {xs ys : List Int} (h : Ins R xs ys) : ys.find? b = xs.find? b := by
  induction h with
  | nil => rfl
  | both x _ ih => rw [List.find?_cons, List.find?_cons, ih]
  | more r _ ih =>
    rw [List.find?_cons] at ih ⊢
    rw [List.find?_cons] at ih
    rw [List.find?_cons, List.find?_cons, hR _ _ r]
    rename_i x y xs ys _
    cases e : b x with
    | true => rfl
    | false =>
      rw [e] at ih
      exact ih
theorem winL_twice {b : Int → Bool} {x y : Int} (e : b y = b x) (r : List Int) (bg : Option Int) : winL b (x :: y :: r) bg = winL b (x :: r) bg := by
  cases c : b x <;> (rw [c] at e; cases bg <;> simp [winL, e, c])
theorem Ins.win {R : Int → Int → Prop} {b : Int → Bool} (hR : ∀ x y, R x y → b y = b x) {xs ys : List Int} (h : Ins R xs ys) : ∀ bg, winL b ys bg = winL b xs bg := by
  induction h with
  | nil => exact fun _ => rfl
  | both x _ ih =>
    intro bg
    cases bg <;> simp [winL, ih]
  | more r _ ih => exact fun bg => (winL_twice (hR _ _ r) _ _).trans (ih bg)
theorem step_same (a v : View) : vStep (vStep a v) v = vStep a v := by
  obtain ⟨a1, a2⟩ := a
  obtain ⟨v1, v2⟩ := v
  unfold vStep
  dsimp only
  refine Prod.ext ?_ ?_
  · dsimp only
    split <;> (try split) <;> omega
  · dsimp only
    cases a2 with
    | none =>
      cases v2 with
      | none => rfl
      | some h =>
        dsimp only
        rw [if_neg (Int.lt_irrefl _)]
    | some l =>
      cases v2 with
      | none => rfl
      | some h =>
        dsimp only
        by_cases c : h < l
        · rw [if_pos c]
          dsimp only
          rw [if_neg (Int.lt_irrefl _)]
        · rw [if_neg c]
          dsimp only
          rw [if_neg c]
theorem Ins.view {R : Int → Int → Prop} {q : Int → Quad} (hR : ∀ x y, R x y → viewsOf (q y) = viewsOf (q x)) {xs ys : List Int} (h : Ins R xs ys) : ∀ a, vFold (ys.map q) a = vFold (xs.map q) a := by
  induction h with
  | nil => exact fun _ => rfl
  | both x _ ih =>
    intro a
    rw [List.map_cons, List.map_cons]
    cases e : viewsOf (q x) with
    | none => rw [vFold_stop e, vFold_stop e]
    | some v => rw [vFold_go e, vFold_go e, ih]
  | more r _ ih =>
    intro a
    rw [← ih, List.map_cons, List.map_cons, List.map_cons]
    rename_i x y xs ys _
    have e2 := hR _ _ r
    cases e : viewsOf (q x) with
    | none => rw [vFold_stop e, vFold_stop e]
    | some v =>
      rw [e] at e2
      rw [vFold_go e, vFold_go e2, vFold_go e, step_same]
/-! ### what two rules say between their spots -/
/-! ### a rule cut once more, behind its last band -/
def cutB (bs : List Band) (l : Band) (e : Int) : List Band := bs ++ [(e, leftOf bs e, l.2.2)]
section
variable {bs : List Band} {l : Band} {e : Int}
end
/-! ### a rule so many times as much -/
def timesB (m : Int) (bs : List Band) : List Band := bs.map fun b => (b.1, b.2.1 * m, b.2.2 * m)
/-! ### one on another -/
/-! ### rules as drawn, of at most four bands that begin below so much -/
def spBandsE5 : Sp := fun vs H Q _ => ∃ (a : Addr) (most reach : Int) (n : Nat), vs = [.ref a, .int most, .int reach] ∧ 1 ≤ most ∧ most ≤ 4 ∧ 1 ≤ reach ∧ reach ≤ 10 ^ 28 ∧ Vt n H a ∧ n ≤ 900000000 ∧
  ∀ (t : Addr) (bs : List Band) (H' : Hp), H t = none → Fx a H H' → BandsAt H' t bs → Pre bs → bs.length ≤ 4 → (∀ b ∈ bs, b.1 ≤ 5 * 10 ^ 28) → Vt (n + 100) H' a → Q (.ref t) H'
def spWide5 : Sp := fun vs H Q _ => ∃ (a : Addr) (n : Nat), vs = [.ref a] ∧ Vt n H a ∧ n ≤ 800000000 ∧
  ∀ (t : Addr) (bs : List Band) (H' : Hp), H t = none → Fx a H H' → BandsAt H' t bs → Good bs → bs.length ≤ 4 → (∀ b ∈ bs, b.1 ≤ 5 * 10 ^ 28) → Vt (n + 200) H' a → Q (.ref t) H'
end Ev

set_option Elab.async false
set_option linter.all false
set_option maxRecDepth 100000
set_option maxHeartbeats 4000000
namespace Ev
open PySem PySem.Spec PyProof.Rows L2 TL
def spEvenRow : Sp := fun vs H Q _ => ∃ (p q : Addr) (L M : List Int), vs = [.ref p, .ref q] ∧ H p = some (.lst (L.map V.int)) ∧ H q = some (.lst (M.map V.int)) ∧ L.length = M.length ∧ L.length ≤ 100 ∧ (∀ x ∈ L, 0 ≤ x ∧ x ≤ 2 ^ 200) ∧ (∀ x ∈ M, 0 ≤ x ∧ x ≤ 2 ^ 200) ∧
  ∀ H' b, Same H H' → (L.Pairwise (· ≤ ·) → M.Pairwise (· ≤ ·) → b = evenRow L M) → Q (.bl b) H'
def spAllEven : Sp := fun vs H Q _ => ∃ (t u : Addr) (bs cs : List Band), vs = [.ref t, .ref u] ∧ BandsAt H t bs ∧ Good bs ∧ BandsAt H u cs ∧ Good cs ∧ Tilts (leftOf bs) (leftOf cs) ∧ ∀ H', Same H H' → Q (.bl true) H'
end Ev

set_option Elab.async false
set_option linter.all false
set_option maxRecDepth 100000
set_option maxHeartbeats 4000000
namespace Ev
open PySem PySem.Spec PyProof.Rows L2 TL
/-! ### behind a rule that evens more, every purse is as even -/
def spPurseE (CP : Addr) : Sp := fun vs H Q _ => ∃ (a t : Addr) (bs : List Band) (n : Nat), vs = [.ref a, .ref t] ∧ Vt n H a ∧ n ≤ 700000000 ∧ BandsAt H t bs ∧ 1 ≤ bs.length ∧ bs.length ≤ 8 ∧ (∀ b ∈ bs, 0 ≤ b.1 ∧ b.1 ≤ 10 ^ 29) ∧
  ∀ (r : Addr) (H' : Hp) (ks : List Kind), Fx a H H' → PurseAt CP H' r ks → Incomes ks → peopleOf ks ≤ 10 ^ 72 → Vt (n + 150) H' a → Q (.ref r) H'
def spTimes : Sp := fun vs H Q _ => ∃ (t : Addr) (by_ : Int) (bs : List Band), vs = [.ref t, .int by_] ∧ BandsAt H t bs ∧ bs.length ≤ 8 ∧ 1 ≤ by_ ∧ by_ ≤ 3 ∧ ∀ (p : Addr) (H' : Hp), Same H H' → BandsAt H' p (timesB by_ bs) → Q (.ref p) H'
def spCut : Sp := fun vs H Q _ => ∃ (a t : Addr) (bs : List Band) (l : Band) (n : Nat), vs = [.ref a, .ref t] ∧ Vt n H a ∧ n ≤ 700000000 ∧ BandsAt H t bs ∧ Good bs ∧ bs.getLast? = some l ∧
  ∀ (p : Addr) (H' : Hp) (e : Int), Fx a H H' → l.1 < e → e ≤ l.1 + 100 → BandsAt H' p (cutB bs l e) → Vt (n + 1) H' a → Q (.ref p) H'
def spAlike : Sp := fun vs H Q _ => ∃ (a t u : Addr) (bs cs : List Band) (n : Nat), vs = [.ref a, .ref t, .ref u] ∧ Vt n H a ∧ n ≤ 600000000 ∧ BandsAt H t bs ∧ Good bs ∧ bs.length ≤ 4 ∧ (∀ b ∈ bs, b.1 ≤ 5 * 10 ^ 28) ∧ BandsAt H u cs ∧ Good cs ∧ firstTurn cs = none ∧
  ∀ H', Fx a H H' → Vt (n + 2) H' a → Q (.bl true) H'
def toldD (o : Option Int) (ws : List Win) : PyData := .list [optD o, winsD ws]
/-! ### a dict whose keys are incomes -/
def entT (k : Int) : Key × V := (Sum.inl k, .bl true)
def addN (ns : List Int) (x : Int) : List Int := if x ∈ ns then ns else ns ++ [x]
end Ev

set_option Elab.async false
set_option linter.all false
set_option maxRecDepth 100000
set_option maxHeartbeats 4000000
namespace Ev
open PySem PySem.Spec PyProof.Rows L2 TL
/-! ### papers carried over -/
/-- amounts and counts times numbers -/
def scaleK (a c : Int) (ks : List Kind) : List Kind := ks.map fun k => (k.1 * a, k.2 * c)
def spGtimes : Sp := fun vs H Q _ => ∃ (t : Addr) (ks : List Kind) (a c : Int), vs = [.ref t, .int a, .int c] ∧ KindsAt H t ks ∧ GoodK ks ∧ 1 ≤ a ∧ a ≤ 20 ∧ 1 ≤ c ∧ c ≤ 20 ∧ ∀ p H', Same H H' → KindsAt H' p (scaleK a c ks) → Q (.ref p) H'
/-! a rule raised for all -/
/-! people taken several times -/
theorem addR_wide (t k c : Int) : ∀ ns : List (Int × Int), addR (ns.map fun e => (e.1, t * e.2)) k (t * c) = (addR ns k c).map fun e => (e.1, t * e.2)
  | [] => rfl
  | e :: r => by
    rw [List.map_cons]
    unfold addR
    dsimp only
    split
    · rw [List.map_cons, Int.mul_add]
    · rw [List.map_cons, addR_wide t k c r]
theorem behind_wide (bs : List Band) (t : Int) (ks : List Kind) : behindOf bs (wideK t ks) = wideK t (behindOf bs ks) := by
  refine snoc_ind (P := fun l => behindOf bs (wideK t l) = wideK t (behindOf bs l)) rfl (fun l k ih => ?_) ks
  have e : wideK t (l ++ [k]) = wideK t l ++ [(k.1, t * k.2)] := by simp [wideK]
  rw [e, behind_snoc, behind_snoc, ih]
  exact addR_wide t _ _ _
theorem Bk.wide {bs : List Band} {ks ms : List Kind} (h : Bk bs ks ms) (t : Int) : Bk bs (wideK t ks) (wideK t ms) := by
  refine ⟨?_, ?_⟩
  · rw [behind_wide]
    exact h.perm.map _
  · exact List.pairwise_map.mpr (h.rise.imp fun {x y} z => z)
end Ev

set_option Elab.async false
set_option linter.all false
set_option maxRecDepth 100000
set_option maxHeartbeats 4000000
namespace Ev
open PySem PySem.Spec PyProof.Rows L2 TL
def spAcc4 (K : PySem.W.Frag) : Sp := spOr (spAcc2 K) (spAcc3 K)
def spJud4 (K : PySem.W.Frag) : Sp := spOr (spJud2 K) (spJud3 K)
def spRight93 : Sp := fun vs H Q _ => ∃ (a : Addr) (n : Nat), vs = [.ref a] ∧ Wl n H a ∧ n ≤ 100000 ∧ ∀ H', Fx a H H' → Wl (n + 4000) H' a → Q (.bl true) H'
end Ev

set_option Elab.async false
set_option linter.all false
set_option maxRecDepth 100000
set_option maxHeartbeats 4000000
namespace Ev
open PySem PySem.Spec PyProof.Rows L2 TL
end Ev

set_option Elab.async false
set_option linter.all false
set_option maxRecDepth 100000
set_option maxHeartbeats 4000000
namespace Ev
open PySem PySem.Spec PyProof.Rows L2 TL
/-! ### gifts that lead from one purse to another: what each kind gives and gets flows from above to below -/
def wsum (φ : Int → Int → Int) (pl : List (Int × Int × Int)) : Int := (pl.map fun s => φ s.1 s.2.1 * s.2.2).sum
def zsum (φ : Int → Int → Int) : List Int → List Int → Int
  | a :: l, b :: m => φ a b + zsum φ l m
  | _, _ => 0
theorem zsum_app (φ : Int → Int → Int) : ∀ {l m l' m' : List Int}, l.length = m.length → zsum φ (l ++ l') (m ++ m') = zsum φ l m + zsum φ l' m'
  | [], [], _, _, _ => by simp [zsum]
  | a :: l, b :: m, l', m', h => by
    have ih := zsum_app φ (l := l) (m := m) (l' := l') (m' := m') (by simpa using h)
    simp only [List.cons_append, zsum, ih]
    omega
theorem zsum_rep (φ : Int → Int → Int) (a b : Int) (l m : List Int) : ∀ n : Nat, zsum φ (List.replicate n a ++ l) (List.replicate n b ++ m) = n * φ a b + zsum φ l m
  | 0 => by simp
  | n + 1 => by
    rw [List.replicate_succ, List.replicate_succ, List.cons_append, List.cons_append, zsum, zsum_rep φ a b l m n, show ((n + 1 : Nat) : Int) = (n : Int) + 1 by omega, Int.add_mul]
    omega
theorem sides_w (φ : Int → Int → Int) {ks os : List Kind} (g : GoodK ks) (g' : GoodK os) (hp : peopleOf ks = peopleOf os) : ∀ (es : List Int) (p : Nat), es.Pairwise (· < ·) → (∀ e ∈ es, (p : Int) < e ∧ e ≤ peopleOf ks) → (∀ x, (x ∈ endsK ks ∨ x ∈ endsK os) → x ≤ (p : Int) ∨ x ∈ es) → lastD (p : Int) es = peopleOf ks →
    wsum φ (sidesOf ks os p es) = zsum φ ((heapOf ks).drop p) ((heapOf os).drop p)
  | [], p, _, _, _, hl => by
    have l1 := heap_len (ks := ks) g.cnt0
    have e : (p : Int) = peopleOf ks := hl
    rw [List.drop_of_length_le (by omega)]
    rfl
  | e :: r, p, hs, hb, hx, hl => by
    obtain ⟨p1, p2⟩ := hb e List.mem_cons_self
    obtain ⟨hs1, hs2⟩ := List.pairwise_cons.mp hs
    obtain ⟨n, rfl⟩ : ∃ n : Nat, e = (p + n : Nat) := ⟨(e - p).toNat, by omega⟩
    have n0 : 0 < n := by omega
    have gap : ∀ x, (x ∈ endsK ks ∨ x ∈ endsK os) → x ≤ (p : Int) ∨ ((p + n : Nat) : Int) ≤ x := fun x m => by
      rcases hx x m with d | d
      · exact .inl d
      · rcases List.mem_cons.mp d with d | d
        · exact .inr (by omega)
        · exact .inr (Int.le_of_lt (hs1 x d))
    obtain ⟨a, ha⟩ := heap_const ks g.cnt0 p (p + n) (by omega) p2 fun x m => gap x (.inl m)
    obtain ⟨b, hb'⟩ := heap_const os g'.cnt0 p (p + n) (by omega) (by omega) fun x m => gap x (.inr m)
    rw [drop_const n p ha, drop_const n p hb', zsum_rep]
    have ih := sides_w φ g g' hp r (p + n) hs2 (fun x hx => ⟨hs1 x hx, (hb x (List.mem_cons_of_mem _ hx)).2⟩) (fun x m => by
      rcases hx x m with d | d
      · exact .inl (by omega)
      · rcases List.mem_cons.mp d with d | d
        · exact .inl (by omega)
        · exact .inr d) (by rw [lastD_cons] at hl; exact hl)
    rw [← ih]
    have e1 : amtAt ks (p : Int) = a := by
      unfold amtAt
      rw [Int.toNat_natCast, ha p (Nat.le_refl _) (by omega)]
      rfl
    have e2 : amtAt os (p : Int) = b := by
      unfold amtAt
      rw [Int.toNat_natCast, hb' p (Nat.le_refl _) (by omega)]
      rfl
    show (List.map _ ((amtAt ks p, amtAt os p, ((p + n : Nat) : Int) - p) :: sidesOf ks os ((p + n : Nat) : Int) r)).sum = _
    rw [List.map_cons, List.sum_cons, e1, e2]
    have e3 : ((p + n : Nat) : Int) - (p : Int) = n := by omega
    show φ a b * (((p + n : Nat) : Int) - (p : Int)) + wsum φ _ = _
    rw [e3, Int.mul_comm]
theorem mixed_w (φ : Int → Int → Int) {ks os : List Kind} (g : GoodK ks) (g' : GoodK os) (hp : peopleOf ks = peopleOf os) {es : List Int} (h : Mixed ks os es) : wsum φ (sidesOf ks os 0 es) = zsum φ (heapOf ks) (heapOf os) := by
  have := sides_w φ g g' hp es 0 h.1 (fun e he => by
    rcases (h.2 e).mp he with d | d
    · exact ⟨ends_pos g d, (ends_mem g d).2⟩
    · exact ⟨ends_pos g' d, by rw [hp]; exact (ends_mem g' d).2⟩) (fun x m => .inr ((h.2 x).mpr m)) (mixed_last g g' hp h)
  exact this
/-- what those with one amount give -/
def gPhi (a : Int) : Int → Int → Int := fun s o => if s = a then pos0 (a - o) else 0
def aPhi (a : Int) : Int → Int → Int := fun s o => if s = a then a - o else 0
theorem gsum_w {a : Int} : ∀ {pl : List (Int × Int × Int)}, (∀ s ∈ pl, 0 ≤ s.2.2) → gsum pl a = wsum (gPhi a) pl
  | [], _ => rfl
  | s :: r, h => by
    rw [gsum_cons, gsum_w fun x hx => h x (List.mem_cons_of_mem _ hx)]
    unfold wsum gPhi
    rw [List.map_cons, List.sum_cons]
    by_cases c : s.1 = a
    · rw [if_pos c, if_pos c, pos0_mul (h s List.mem_cons_self)]
    · rw [if_neg c, if_neg c, Int.zero_mul]
theorem apart_w {a : Int} : ∀ {pl : List (Int × Int × Int)}, (apartOf pl a).sum = wsum (aPhi a) pl
  | [] => rfl
  | s :: r => by
    have ih := apart_w (a := a) (pl := r)
    unfold apartOf at *
    unfold wsum aPhi at *
    by_cases c : s.1 = a
    · rw [List.filter_cons_of_pos (by simpa using c), List.map_cons, List.sum_cons, List.map_cons, List.sum_cons, if_pos c, ih]
    · rw [List.filter_cons_of_neg (by simpa using c), List.map_cons, List.sum_cons, if_neg c, Int.zero_mul, ih]
      omega
/-- nobody gives what nobody below still lacks -/
def flowOk : Int → List (Int × Int × Int) → Prop
  | s, [] => s = 0
  | s, x :: r => 0 ≤ x.2.1 ∧ 0 ≤ x.2.2 ∧ x.2.1 ≤ s ∧ flowOk (s - x.2.1 + x.2.2) r
def rowF (S O : List Int) (a : Int) : Int × Int × Int := (a, zsum (gPhi a) S O, zsum (gPhi a) S O - zsum (aPhi a) S O)
theorem zsum_not {φ : Int → Int → Int} : ∀ {l m : List Int}, (∀ x ∈ l, ∀ y, φ x y = 0) → zsum φ l m = 0
  | [], _, _ => by cases ‹List Int› <;> rfl
  | a :: l, [], _ => rfl
  | a :: l, b :: m, h => by
    rw [zsum, h a List.mem_cons_self b, zsum_not fun x hx => h x (List.mem_cons_of_mem _ hx)]
    rfl
theorem zsum_const {φ : Int → Int → Int} {a : Int} : ∀ {m : List Int}, zsum φ (List.replicate m.length a) m = (m.map (φ a)).sum
  | [] => rfl
  | b :: m => by
    rw [List.length_cons, List.replicate_succ, zsum, zsum_const, List.map_cons, List.sum_cons]
/-- the givers stand ahead -/
theorem first_give {a : Int} : ∀ {M : List Int}, M.Pairwise (· ≤ ·) → ∃ n, n ≤ M.length ∧ (M.map fun y => pos0 (a - y)).sum = n * a - (M.take n).sum
  | [], _ => ⟨0, by simp, by simp⟩
  | y :: r, h => by
    obtain ⟨h1, h2⟩ := List.pairwise_cons.mp h
    by_cases c : y < a
    · obtain ⟨n, nl, e⟩ := first_give (a := a) h2
      refine ⟨n + 1, by simp; omega, ?_⟩
      rw [List.map_cons, List.sum_cons, e, List.take_succ_cons, List.sum_cons, show ((n + 1 : Nat) : Int) = (n : Int) + 1 by omega, Int.add_mul]
      unfold pos0
      rw [if_pos (by omega)]
      omega
    · refine ⟨0, by simp, ?_⟩
      have z : ∀ x ∈ y :: r, pos0 (a - x) = 0 := fun x hx => by
        have : y ≤ x := by
          rcases List.mem_cons.mp hx with e | m
          · omega
          · exact h1 x m
        unfold pos0
        rw [if_neg (by omega)]
      have key : ∀ l : List Int, (∀ x ∈ l, pos0 (a - x) = 0) → (l.map fun y => pos0 (a - y)).sum = 0 := fun l => by
        induction l with
        | nil => intro _; rfl
        | cons x t ih =>
          intro hl
          rw [List.map_cons, List.sum_cons, hl x List.mem_cons_self, ih fun z hz => hl z (List.mem_cons_of_mem _ hz)]
          rfl
      rw [key _ z]
      simp
theorem sum_apart (a : Int) : ∀ M : List Int, (M.map fun y => a - y).sum = M.length * a - M.sum
  | [] => by simp
  | y :: r => by
    rw [List.map_cons, List.sum_cons, sum_apart a r, List.length_cons, List.sum_cons, show ((r.length + 1 : Nat) : Int) = (r.length : Int) + 1 by omega, Int.add_mul]
    omega
theorem pos0_sums (a : Int) : ∀ M : List Int, 0 ≤ (M.map fun y => pos0 (a - y)).sum ∧ (M.map fun y => a - y).sum ≤ (M.map fun y => pos0 (a - y)).sum
  | [] => by simp
  | y :: r => by
    have ih := pos0_sums a r
    have p := pos0_nonneg (a - y)
    have q : a - y ≤ pos0 (a - y) := by unfold pos0; split <;> omega
    rw [List.map_cons, List.sum_cons, List.map_cons, List.sum_cons]
    omega
theorem map_zero : ∀ M : List Int, (M.map fun _ => (0 : Int)).sum = 0
  | [] => rfl
  | _ :: r => by rw [List.map_cons, List.sum_cons, map_zero r]; rfl
theorem gPhi_self (a : Int) : gPhi a a = fun y => pos0 (a - y) := by
  funext y
  unfold gPhi
  rw [if_pos rfl]
theorem aPhi_self (a : Int) : aPhi a a = fun y => a - y := by
  funext y
  unfold aPhi
  rw [if_pos rfl]
theorem flow_of : ∀ {ks : List Kind} {O : List Int} {s : Int}, (∀ k ∈ ks, 0 ≤ k.2) → (ks.map Prod.fst).Nodup → O.Pairwise (· ≤ ·) → O.length = (heapOf ks).length → (∀ n, n ≤ O.length → 0 ≤ s + (O.take n).sum - ((heapOf ks).take n).sum) → s + O.sum - (heapOf ks).sum = 0 →
    flowOk s (ks.map fun k => rowF (heapOf ks) O k.1)
  | [], O, s, _, _, _, hl, _, h0 => by
    have : O = [] := List.eq_nil_of_length_eq_zero (by rw [hl]; rfl)
    subst this
    have e : (heapOf ([] : List Kind)).sum = 0 := rfl
    rw [e] at h0
    show s = 0
    simpa using h0
  | k :: r, O, s, hc, nd, up, hl, hn, h0 => by
    have c0 := hc k List.mem_cons_self
    obtain ⟨c, ec⟩ : ∃ c : Nat, k.2 = (c : Int) := ⟨k.2.toNat, by omega⟩
    have eH : heapOf (k :: r) = List.replicate c k.1 ++ heapOf r := by
      rw [heap_cons, ec, Int.toNat_natCast]
    rw [eH] at hl hn h0 ⊢
    rw [List.length_append, List.length_replicate] at hl
    obtain ⟨M, O', rfl, lM⟩ : ∃ M O', O = M ++ O' ∧ M.length = c := ⟨O.take c, O.drop c, (List.take_append_drop ..).symm, by rw [List.length_take]; omega⟩
    obtain ⟨n1, n2⟩ := List.nodup_cons.mp (by simpa using nd : (k.1 :: r.map Prod.fst).Nodup)
    have lO' : O'.length = (heapOf r).length := by rw [List.length_append] at hl; omega
    have nm : ∀ x ∈ heapOf r, x ∈ r.map Prod.fst := fun x hx => by
      obtain ⟨k', hk', hm⟩ := List.mem_flatMap.mp hx
      rw [List.eq_of_mem_replicate hm]
      exact List.mem_map_of_mem hk'
    have upM := (List.pairwise_append.mp up).1
    have upO := (List.pairwise_append.mp up).2.1
    have lr : (List.replicate c k.1).length = M.length := by rw [List.length_replicate, lM]
    have rep : ∀ φ : Int → Int → Int, zsum φ (List.replicate c k.1) M = (M.map (φ k.1)).sum := fun φ => by rw [← lM]; exact zsum_const
    have e1 : zsum (gPhi k.1) (List.replicate c k.1 ++ heapOf r) (M ++ O') = (M.map fun y => pos0 (k.1 - y)).sum := by
      rw [zsum_app _ lr, rep, zsum_not (fun x hx y => by unfold gPhi; rw [if_neg (fun e => n1 (by rw [← e]; exact nm x hx))])]
      rw [gPhi_self, Int.add_zero]
    have e2 : zsum (aPhi k.1) (List.replicate c k.1 ++ heapOf r) (M ++ O') = (M.map fun y => k.1 - y).sum := by
      rw [zsum_app _ lr, rep, zsum_not (fun x hx y => by unfold aPhi; rw [if_neg (fun e => n1 (by rw [← e]; exact nm x hx))])]
      rw [aPhi_self, Int.add_zero]
    have e3 : (r.map fun j => rowF (List.replicate c k.1 ++ heapOf r) (M ++ O') j.1) = r.map fun j => rowF (heapOf r) O' j.1 := by
      refine List.map_congr_left fun j hj => ?_
      have nk : ¬ k.1 = j.1 := fun e => n1 (by rw [e]; exact List.mem_map_of_mem hj)
      unfold rowF
      rw [zsum_app _ lr, zsum_app _ lr, rep, rep]
      have z1 : (M.map (gPhi j.1 k.1)).sum = 0 := by
        have : (gPhi j.1 k.1) = fun _ => 0 := by funext y; unfold gPhi; rw [if_neg nk]
        rw [this]
        exact map_zero M
      have z2 : (M.map (aPhi j.1 k.1)).sum = 0 := by
        have : (aPhi j.1 k.1) = fun _ => 0 := by funext y; unfold aPhi; rw [if_neg nk]
        rw [this]
        exact map_zero M
      rw [z1, z2, Int.zero_add, Int.zero_add]
    rw [List.map_cons, e3]
    obtain ⟨p1, p2⟩ := pos0_sums k.1 M
    obtain ⟨n, nl, en⟩ := first_give (a := k.1) upM
    have sa := sum_apart k.1 M
    have hn' := hn n (by rw [List.length_append]; omega)
    rw [List.take_append_of_le_length nl, List.take_append_of_le_length (by rw [List.length_replicate]; omega), List.take_replicate, Nat.min_eq_left (by omega), rep_sum] at hn'
    have cs : (List.replicate c k.1).sum = c * k.1 := rep_sum _ _
    refine ⟨by unfold rowF; rw [e1]; exact p1, by unfold rowF; rw [e1, e2]; show 0 ≤ _ - _; omega, by unfold rowF; rw [e1]; rw [en]; show (n : Int) * k.1 - (M.take n).sum ≤ s; omega, ?_⟩
    have es : s - (rowF (List.replicate c k.1 ++ heapOf r) (M ++ O') k.1).2.1 + (rowF (List.replicate c k.1 ++ heapOf r) (M ++ O') k.1).2.2 = s + M.sum - c * k.1 := by
      unfold rowF
      rw [e1, e2]
      dsimp only
      rw [sa, lM]
      omega
    rw [es]
    refine flow_of (fun j hj => hc j (List.mem_cons_of_mem _ hj)) n2 upO lO' (fun m hm => ?_) ?_
    · have h := hn (c + m) (by rw [List.length_append]; omega)
      rw [← lM, List.take_length_add_append, lM] at h
      have t2 : (List.replicate c k.1 ++ heapOf r).take (c + m) = List.replicate c k.1 ++ (heapOf r).take m := by
        have := List.take_length_add_append (l₁ := List.replicate c k.1) (l₂ := heapOf r) m
        rwa [List.length_replicate] at this
      rw [t2, List.sum_append, List.sum_append, cs] at h
      omega
    · rw [List.sum_append, List.sum_append, cs] at h0
      omega
end Ev

set_option Elab.async false
set_option linter.all false
set_option maxRecDepth 100000
set_option maxHeartbeats 4000000
namespace Ev
open PySem PySem.Spec PyProof.Rows L2 TL
theorem row_of {ks os : List Kind} (g : GoodK ks) (g' : GoodK os) (hp : peopleOf ks = peopleOf os) {es : List Int} (hm : Mixed ks os es) (k : Kind) : giveRow (sidesOf ks os 0 es) k = rowF (heapOf ks) (heapOf os) k.1 := by
  unfold giveRow rowF
  rw [apart_w, gsum_w (fun s hs => by
    obtain ⟨q, e, h1, h2, h3, rfl⟩ := sides_low hm.1 (fun e he => by
      rcases (hm.2 e).mp he with d | d
      · exact ends_pos g d
      · exact ends_pos g' d) hs
    show 0 ≤ e - q
    omega), mixed_w _ g g' hp hm, mixed_w _ g g' hp hm]
theorem flow_gifts {ks os : List Kind} (g : GoodK ks) (g' : GoodK os) {v : Int} (h : giftOf ks os = some v) {es : List Int} (hm : Mixed ks os es) : flowOk 0 (ks.map (giveRow (sidesOf ks os 0 es))) := by
  have h2 := h
  rw [gift_due g g'] at h2
  unfold dueG at h2
  split at h2
  · rename_i c
    obtain ⟨c1, c2, c3⟩ := c
    have l1 := heap_len (ks := ks) g.cnt0
    have l2 := heap_len (ks := os) g'.cnt0
    have hp : peopleOf ks = peopleOf os := by omega
    have e : ks.map (giveRow (sidesOf ks os 0 es)) = ks.map fun k => rowF (heapOf ks) (heapOf os) k.1 := List.map_congr_left fun k _ => row_of g g' hp hm k
    rw [e]
    have up : (ks.map Prod.fst).Pairwise (· < ·) := g.pair
    refine flow_of g.cnt0 (up.imp fun h => by omega) (heap_rise (List.pairwise_map.mp g'.pair)) c1.symm (fun n hn => ?_) (by omega)
    have := (lowB_iff _ _ _).mp c3 n (by omega)
    omega
  · cases h2
/-! the rows -/
def give1 (g : Int) : List (Int × Int) → List (Int × Int) × List (Int × Int)
  | [] => ([], [])
  | x :: r => ((if min g x.2 > 0 then [(x.1, min g x.2)] else []) ++ (give1 (g - min g x.2) r).1, (x.1, x.2 - min g x.2) :: (give1 (g - min g x.2) r).2)
def flowRows : List (Int × Int) → List (Int × Int × Int) → List (Int × Int × Int)
  | _, [] => []
  | L, x :: r => (give1 x.2.1 L).1.map (fun y => (x.1, y.1, y.2)) ++ flowRows ((give1 x.2.1 L).2 ++ [(x.1, x.2.2)]) r
theorem give1_cons (g : Int) (x : Int × Int) (r : List (Int × Int)) : give1 g (x :: r) = ((if min g x.2 > 0 then [(x.1, min g x.2)] else []) ++ (give1 (g - min g x.2) r).1, (x.1, x.2 - min g x.2) :: (give1 (g - min g x.2) r).2) := rfl
theorem flow_cons (L : List (Int × Int)) (x : Int × Int × Int) (r : List (Int × Int × Int)) : flowRows L (x :: r) = (give1 x.2.1 L).1.map (fun y => (x.1, y.1, y.2)) ++ flowRows ((give1 x.2.1 L).2 ++ [(x.1, x.2.2)]) r := rfl
def sumG (R : List (Int × Int × Int)) (a : Int) : Int := ((R.filter fun r => decide (r.1 = a)).map fun r => r.2.2).sum
def sumT (R : List (Int × Int × Int)) (a : Int) : Int := ((R.filter fun r => decide (r.2.1 = a)).map fun r => r.2.2).sum
theorem sumG_app (R S : List (Int × Int × Int)) (a : Int) : sumG (R ++ S) a = sumG R a + sumG S a := by
  unfold sumG
  rw [List.filter_append, List.map_append, List.sum_append]
theorem sumT_app (R S : List (Int × Int × Int)) (a : Int) : sumT (R ++ S) a = sumT R a + sumT S a := by
  unfold sumT
  rw [List.filter_append, List.map_append, List.sum_append]
theorem sumG_none {R : List (Int × Int × Int)} {a : Int} (h : ∀ r ∈ R, r.1 ≠ a) : sumG R a = 0 := by
  unfold sumG
  rw [List.filter_eq_nil_iff.mpr (fun r hr => by simpa using h r hr)]
  rfl
theorem sumT_none {R : List (Int × Int × Int)} {a : Int} (h : ∀ r ∈ R, r.2.1 ≠ a) : sumT R a = 0 := by
  unfold sumT
  rw [List.filter_eq_nil_iff.mpr (fun r hr => by simpa using h r hr)]
  rfl
def lackSum (L : List (Int × Int)) : Int := (L.map fun x => x.2).sum
theorem lack_nonneg : ∀ {L : List (Int × Int)}, (∀ x ∈ L, 0 ≤ x.2) → 0 ≤ lackSum L
  | [], _ => by simp [lackSum]
  | x :: r, h => by
    have ih := lack_nonneg (L := r) fun y hy => h y (List.mem_cons_of_mem _ hy)
    have := h x List.mem_cons_self
    unfold lackSum at *
    rw [List.map_cons, List.sum_cons]
    omega
/-- what one gives to those who still lack something -/
theorem give1_ok : ∀ {L : List (Int × Int)} {g : Int}, 0 ≤ g → (∀ x ∈ L, 0 ≤ x.2) → g ≤ lackSum L →
    (give1 g L).2.map Prod.fst = L.map Prod.fst ∧ (∀ x ∈ (give1 g L).2, 0 ≤ x.2) ∧ lackSum (give1 g L).2 = lackSum L - g ∧ lackSum (give1 g L).1 = g ∧
    (∀ x ∈ (give1 g L).1, 1 ≤ x.2 ∧ x.1 ∈ L.map Prod.fst) ∧ (L.map Prod.fst).Pairwise (· < ·) = (L.map Prod.fst).Pairwise (· < ·) ∧ ((L.map Prod.fst).Pairwise (· < ·) → ((give1 g L).1.map Prod.fst).Pairwise (· < ·))
  | [], g, g0, _, gl => by
    have : g = 0 := by unfold lackSum at gl; simp at gl; omega
    subst this
    refine ⟨rfl, fun x h => (by cases h), by simp [give1, lackSum], by simp [give1, lackSum], fun x h => (by cases h), rfl, fun _ => List.Pairwise.nil⟩
  | x :: r, g, g0, hl, gl => by
    have x0 := hl x List.mem_cons_self
    have hr : ∀ y ∈ r, 0 ≤ y.2 := fun y hy => hl y (List.mem_cons_of_mem _ hy)
    have ls : lackSum (x :: r) = x.2 + lackSum r := by unfold lackSum; rw [List.map_cons, List.sum_cons]
    have r0 := lack_nonneg hr
    obtain ⟨i1, i2, i3, i4, i5, _, i6⟩ := give1_ok (L := r) (g := g - min g x.2) (by omega) hr (by omega)
    have l1 : lackSum ((x.1, x.2 - min g x.2) :: (give1 (g - min g x.2) r).2) = x.2 - min g x.2 + lackSum (give1 (g - min g x.2) r).2 := by unfold lackSum; rw [List.map_cons, List.sum_cons]
    have l2 : lackSum ((if min g x.2 > 0 then [(x.1, min g x.2)] else []) ++ (give1 (g - min g x.2) r).1) = min g x.2 + lackSum (give1 (g - min g x.2) r).1 := by
      unfold lackSum
      rw [List.map_append, List.sum_append]
      split
      · simp
      · simp; omega
    unfold give1
    refine ⟨by rw [List.map_cons, List.map_cons, i1], fun y hy => ?_, by rw [l1, i3, ls]; omega, by rw [l2, i4]; omega, fun y hy => ?_, rfl, fun up => ?_⟩
    · rcases List.mem_cons.mp hy with e | m
      · rw [e]; show 0 ≤ x.2 - min g x.2; omega
      · exact i2 y m
    · rcases List.mem_append.mp hy with m | m
      · split at m
        · rw [List.mem_singleton.mp m]
          exact ⟨by show 1 ≤ min g x.2; omega, by rw [List.map_cons]; exact List.mem_cons_self⟩
        · cases m
      · exact ⟨(i5 y m).1, by rw [List.map_cons]; exact List.mem_cons_of_mem _ (i5 y m).2⟩
    · rw [List.map_cons, List.pairwise_cons] at up
      rw [List.map_append, List.pairwise_append]
      refine ⟨by split <;> simp, i6 up.2, fun a ha b hb => ?_⟩
      obtain ⟨y, hy, rfl⟩ := List.mem_map.mp hb
      split at ha
      · rw [List.map_cons, List.map_nil, List.mem_singleton] at ha
        rw [ha]
        exact up.1 _ (i5 y hy).2
      · cases ha
/-- what those of one place get of it -/
theorem give1_each : ∀ {L : List (Int × Int)} {g : Int}, 0 ≤ g → (∀ x ∈ L, 0 ≤ x.2) → g ≤ lackSum L → (L.map Prod.fst).Pairwise (· < ·) → ∀ x ∈ L, ∃ l, (x.1, l) ∈ (give1 g L).2 ∧ (((give1 g L).1.filter fun y => decide (y.1 = x.1)).map fun y => y.2).sum + l = x.2
  | [], _, _, _, _, _, x, hx => by cases hx
  | z :: r, g, g0, hl, gl, up, x, hx => by
    have z0 := hl z List.mem_cons_self
    have hr : ∀ y ∈ r, 0 ≤ y.2 := fun y hy => hl y (List.mem_cons_of_mem _ hy)
    have ls : lackSum (z :: r) = z.2 + lackSum r := by unfold lackSum; rw [List.map_cons, List.sum_cons]
    have r0 := lack_nonneg hr
    obtain ⟨_, _, _, _, i5, _, _⟩ := give1_ok (L := r) (g := g - min g z.2) (by omega) hr (by omega)
    rw [List.map_cons, List.pairwise_cons] at up
    unfold give1
    rw [List.filter_append, List.map_append, List.sum_append]
    rcases List.mem_cons.mp hx with e | m
    · subst e
      refine ⟨_, List.mem_cons_self, ?_⟩
      have none : ((give1 (g - min g x.2) r).1.filter fun y => decide (y.1 = x.1)) = [] := List.filter_eq_nil_iff.mpr fun y hy => by
        have := up.1 _ (i5 y hy).2
        simp
        omega
      rw [none]
      split
      · simp
        omega
      · simp
        omega
    · obtain ⟨l, h1, h2⟩ := give1_each (L := r) (g := g - min g z.2) (by omega) hr (by omega) up.2 x m
      refine ⟨l, List.mem_cons_of_mem _ h1, ?_⟩
      have lt := up.1 _ (List.mem_map_of_mem (f := Prod.fst) m)
      have none : (((if min g z.2 > 0 then [(z.1, min g z.2)] else []) : List (Int × Int)).filter fun y => decide (y.1 = x.1)) = [] := by
        refine List.filter_eq_nil_iff.mpr fun y hy => ?_
        split at hy
        · rw [List.mem_singleton.mp hy]
          simp
          omega
        · cases hy
      rw [none]
      simp
      exact h2
def lexLt (p q : Int × Int × Int) : Prop := p.1 < q.1 ∨ (p.1 = q.1 ∧ p.2.1 < q.2.1)
structure FlowOut (L : List (Int × Int)) (W R : List (Int × Int × Int)) : Prop where
  row : ∀ r ∈ R, r.1 ∈ W.map (·.1) ∧ (r.2.1 ∈ L.map Prod.fst ∨ r.2.1 ∈ W.map (·.1)) ∧ r.2.1 < r.1 ∧ 1 ≤ r.2.2
  lex : R.Pairwise lexLt
  give : ∀ x ∈ W, sumG R x.1 = x.2.1 ∧ sumT R x.1 = x.2.2
  lack : ∀ x ∈ L, sumT R x.1 = x.2
theorem flow_rows : ∀ {W : List (Int × Int × Int)} {L : List (Int × Int)}, (L.map Prod.fst ++ W.map (·.1)).Pairwise (· < ·) → (∀ x ∈ L, 0 ≤ x.2) → flowOk (lackSum L) W → FlowOut L W (flowRows L W)
  | [], L, _, hl, h => by
    have hs : lackSum L = 0 := h
    refine ⟨fun r hr => (by cases hr), List.Pairwise.nil, fun x hx => (by cases hx), fun x hx => ?_⟩
    have z : ∀ {l : List (Int × Int)}, (∀ x ∈ l, 0 ≤ x.2) → lackSum l = 0 → ∀ x ∈ l, x.2 = 0 := fun {l} => by
      induction l with
      | nil => intro _ _ x hx; cases hx
      | cons y r ih =>
        intro h0 hs x hx
        have y0 := h0 y List.mem_cons_self
        have r0 := lack_nonneg (L := r) fun z hz => h0 z (List.mem_cons_of_mem _ hz)
        have e : lackSum (y :: r) = y.2 + lackSum r := by unfold lackSum; rw [List.map_cons, List.sum_cons]
        rcases List.mem_cons.mp hx with d | d
        · rw [d]; omega
        · exact ih (fun z hz => h0 z (List.mem_cons_of_mem _ hz)) (by omega) x d
    exact (z hl hs x hx).symm
  | w :: r, L, up, hl, h => by
    obtain ⟨g0, t0, gs, hr⟩ := h
    have upL := (List.pairwise_append.mp up).1
    have upW := (List.pairwise_append.mp up).2.1
    have ab := (List.pairwise_append.mp up).2.2
    rw [List.map_cons, List.pairwise_cons] at upW
    obtain ⟨i1, i2, i3, i4, i5, _, i6⟩ := give1_ok g0 hl gs
    have i6 := i6 upL
    have each := give1_each g0 hl gs upL
    have lt : ∀ y ∈ L.map Prod.fst, y < w.1 := fun y hy => ab y hy w.1 (by rw [List.map_cons]; exact List.mem_cons_self)
    have ls : lackSum ((give1 w.2.1 L).2 ++ [(w.1, w.2.2)]) = lackSum L - w.2.1 + w.2.2 := by
      have : lackSum ((give1 w.2.1 L).2 ++ [(w.1, w.2.2)]) = lackSum (give1 w.2.1 L).2 + w.2.2 := by
        unfold lackSum
        rw [List.map_append, List.sum_append]
        simp
      rw [this, i3]
    have ih := flow_rows (W := r) (L := (give1 w.2.1 L).2 ++ [(w.1, w.2.2)]) (by
      rw [List.map_append, i1]
      have : L.map Prod.fst ++ [((w.1, w.2.2) : Int × Int)].map Prod.fst ++ r.map (·.1) = L.map Prod.fst ++ (w :: r).map (·.1) := by simp
      rw [this]
      exact up) (fun x hx => by
      rcases List.mem_append.mp hx with m | m
      · exact i2 x m
      · rw [List.mem_singleton.mp m]; exact t0) (by rw [ls]; exact hr)
    have mem1 : ∀ x ∈ (give1 w.2.1 L).1.map (fun y => ((w.1, y.1, y.2) : Int × Int × Int)), x.1 = w.1 ∧ x.2.1 ∈ L.map Prod.fst ∧ 1 ≤ x.2.2 := fun x hx => by
      obtain ⟨y, hy, rfl⟩ := List.mem_map.mp hx
      exact ⟨rfl, (i5 y hy).2, (i5 y hy).1⟩
    have gt : ∀ x ∈ flowRows ((give1 w.2.1 L).2 ++ [(w.1, w.2.2)]) r, w.1 < x.1 := fun x hx => upW.1 _ (ih.row x hx).1
    have sG1 : sumG ((give1 w.2.1 L).1.map (fun y => ((w.1, y.1, y.2) : Int × Int × Int))) w.1 = w.2.1 := by
      have e : ((give1 w.2.1 L).1.map (fun y => ((w.1, y.1, y.2) : Int × Int × Int))).filter (fun r => decide (r.1 = w.1)) = (give1 w.2.1 L).1.map (fun y => (w.1, y.1, y.2)) := List.filter_eq_self.mpr fun x hx => by simp [(mem1 x hx).1]
      unfold sumG
      rw [e, List.map_map]
      exact i4
    unfold flowRows
    refine ⟨fun x hx => ?_, ?_, fun x hx => ?_, fun x hx => ?_⟩
    · rcases List.mem_append.mp hx with m | m
      · obtain ⟨m1, m2, m3⟩ := mem1 x m
        have := lt _ m2
        exact ⟨by rw [m1, List.map_cons]; exact List.mem_cons_self, .inl m2, by omega, m3⟩
      · obtain ⟨m1, m2, m3, m4⟩ := ih.row x m
        refine ⟨by rw [List.map_cons]; exact List.mem_cons_of_mem _ m1, ?_, m3, m4⟩
        rcases m2 with m2 | m2
        · rw [List.map_append, i1] at m2
          rcases List.mem_append.mp m2 with d | d
          · exact .inl d
          · rw [List.map_cons, List.map_nil, List.mem_singleton] at d
            exact .inr (by rw [d, List.map_cons]; exact List.mem_cons_self)
        · exact .inr (by rw [List.map_cons]; exact List.mem_cons_of_mem _ m2)
    · refine List.pairwise_append.mpr ⟨?_, ih.lex, fun a ha b hb => .inl (by rw [(mem1 a ha).1]; exact gt b hb)⟩
      rw [List.pairwise_map]
      exact (List.pairwise_map.mp i6).imp fun h => .inr ⟨rfl, h⟩
    · rw [sumG_app, sumT_app]
      rcases List.mem_cons.mp hx with e | m
      · subst e
        rw [sG1, sumG_none fun y hy => by have := gt y hy; omega, sumT_none fun y hy => by have := lt _ (mem1 y hy).2.1; omega]
        have := ih.lack (x.1, x.2.2) (List.mem_append_right _ List.mem_cons_self)
        exact ⟨by omega, by rw [this]; omega⟩
      · have gx := upW.1 _ (List.mem_map_of_mem (f := fun y : Int × Int × Int => y.1) m)
        rw [sumG_none fun y hy => by have := (mem1 y hy).1; omega, sumT_none fun y hy => by have := lt _ (mem1 y hy).2.1; omega]
        have := ih.give x m
        exact ⟨by omega, by omega⟩
    · obtain ⟨l, h1, h2⟩ := each x hx
      have := ih.lack (x.1, l) (List.mem_append_left _ h1)
      rw [sumT_app, this]
      have e : sumT ((give1 w.2.1 L).1.map (fun y => ((w.1, y.1, y.2) : Int × Int × Int))) x.1 = (((give1 w.2.1 L).1.filter fun y => decide (y.1 = x.1)).map fun y => y.2).sum := by
        unfold sumT
        rw [List.filter_map, List.map_map]
        rfl
      rw [e]
      exact h2
end Ev

set_option Elab.async false
set_option linter.all false
set_option maxRecDepth 100000
set_option maxHeartbeats 4000000
namespace Ev
open PySem PySem.Spec PyProof.Rows L2 TL
/-! ### the sum of a tuple of whole numbers; a tuple taken once or several times -/
def rSumT (K : PySem.W.Frag) : List V → Hp → VK → Prop := fun vs H Q => ∃ (a : Addr) (ns : List Int), vs = [V.ref a] ∧ SqT K H a (ns.map V.int) ∧ Q (.int ns.sum) H
def rRepA (K : PySem.W.Frag) : R2 := fun x y H Q => ∃ l k xs, x = .ref l ∧ y = .int k ∧ SqT K H l xs ∧ xs ≠ [] ∧ 1 ≤ k ∧ k ≤ 1000 ∧ xs.length ≤ 1000 ∧ ∀ p H', Same H H' → SqT K H' p (List.replicate k.toNat xs).flatten → Q (.ref p) H'
end Ev

set_option Elab.async false
set_option linter.all false
set_option maxRecDepth 100000
set_option maxHeartbeats 4000000
namespace Ev
open PySem PySem.Spec PyProof.Rows L2 TL
/-! ### purses of few people, rows of few incomes -/
def spEvenBy2 : Sp := fun vs H Q _ => ∃ (t u : Addr) (ks os : List Kind), vs = [.ref t, .ref u] ∧ KindsAt H t ks ∧ GoodK ks ∧ KindsAt H u os ∧ GoodK os ∧ (∀ k ∈ ks, k.1 ≤ 10 ^ 35) ∧ (∀ k ∈ os, k.1 ≤ 10 ^ 35) ∧ peopleOf ks ≤ 30 ∧ peopleOf os ≤ 30 ∧ ∀ H', Same H H' → Q (.bl (asE ks os)) H'
def rowT (row : List Int) : List V := row.map V.int
def spRowsOf : Sp := fun vs H Q _ => ∃ (m top : Int), vs = [.int m, .int top] ∧ 0 ≤ m ∧ m ≤ 3 ∧ 0 ≤ top ∧ top ≤ 9 ∧
  ∀ p H' rs rows, Same H H' → H' p = some (.lst (rs.map V.ref)) → RowsL rowT H' rs rows → (∀ row ∈ rows, GoodRow top row ∧ 1 ≤ row.length ∧ row.length ≤ 3) → Q (.ref p) H'
/-- what the law asks of two ascending rows -/
def shareRow (L M : List Int) : Bool := if M.sum = 0 ∨ L.sum = 0 then decide (L.sum = 0) || decide (L = List.replicate L.length (L.getD 0 0)) else (List.range L.length).all fun k => !decide ((L.take (k + 1)).sum * M.sum < (M.take (k + 1)).sum * L.sum)
def spShareRows (K : PySem.W.Frag) : Sp := fun vs H Q _ => ∃ (p q : Addr) (L M : List Int), vs = [.ref p, .ref q] ∧ SqT K H p (L.map V.int) ∧ SqT K H q (M.map V.int) ∧ L.length = M.length ∧ 1 ≤ L.length ∧ L.length ≤ 100 ∧ (∀ x ∈ L, 0 ≤ x ∧ x ≤ 2 ^ 200) ∧ (∀ x ∈ M, 0 ≤ x ∧ x ≤ 2 ^ 200) ∧
  ∀ H', Same H H' → Q (.bl (shareRow L M)) H'
def spContraryRow : Sp := fun vs H Q _ => ∃ (t u : Addr) (bs cs : List Band) (m top : Int), vs = [.ref t, .ref u, .int m, .int top] ∧ BandsAt H t bs ∧ Good bs ∧ BandsAt H u cs ∧ Good cs ∧ 0 ≤ m ∧ m ≤ 3 ∧ 0 ≤ top ∧ top ≤ 9 ∧
  ∀ p H', Same H H' → (Tilts (leftOf bs) (leftOf cs) → H' p = some (.lst [])) → Q (.ref p) H'
theorem name_go {i : Nat} {v : V} {σ : L2.St} {H : Hp} {Q : L2.St → Hp → Prop} (h : Q (σ.set i (some v)) H) : gName i v σ H Q := h
theorem seq_go {t u : TS} {D : Ends} {σ : L2.St} {H : Hp} (h : t { nx := u D, rt := D.rt, bk := D.bk, ct := D.ct } σ H) : tSeq t u D σ H := h
theorem asg_go {te : TE} {g : TG} {D : Ends} {σ : L2.St} {H : Hp} (h : te σ H fun x H1 => g x σ H1 D.nx) : tAsg te g D σ H := h
theorem row_get {H : Hp} {rs : List Addr} {i : Nat} {v : V} (h : (rs.map V.ref)[i]? = some v) : ∃ r, v = .ref r ∧ rs[i]? = some r := by
  rw [List.getElem?_map] at h
  cases e : rs[i]? with
  | none => rw [e] at h; cases h
  | some r => rw [e] at h; exact ⟨r, (Option.some.inj h).symm, rfl⟩
end Ev

set_option Elab.async false
set_option linter.all false
set_option maxRecDepth 100000
set_option maxHeartbeats 4000000
namespace Ev
open PySem PySem.Spec PyProof.Rows L2 TL
/-! ### what the program and the checker say of gifts -/
def spRowsG : Sp := fun vs H Q _ => ∃ (t : Addr) (W : List (Int × Int × Int)), vs = [.ref t] ∧ LRowsAt tripT H t W ∧ W.length ≤ 30 ∧ ∀ p H', Same H H' → RowsAt tripT H' p (flowRows [] W) → Q (.ref p) H'
theorem seq_cut2 {t u : TS} {D : Ends} {σ : L2.St} {H : Hp} (M : L2.St → Hp → Prop) (h : ∀ N : L2.St → Hp → Prop, (∀ σ' H', M σ' H' → N σ' H') → t { D with nx := N } σ H) (k : ∀ σ' H', M σ' H' → u D σ' H') : tSeq t u D σ H := h _ k
theorem op_ltTK {X : Cx} {K : PySem.W.Frag} (h : X.K = K) (hu : X.A.units < cLine) : OpR X (compareOp .Lt) (rLtT K) := h ▸ op_ltT hu
theorem lex2 (a b c d : Int) : HT.lexLt [a, b] [c, d] = (decide (a < c) || (decide (a = c) && decide (b < d))) := by
  simp only [HT.lexLt]
  by_cases h : a = c
  · subst h
    simp
    intro h
    omega
  · simp [h]
theorem cut_one (xs : List V) : cutV xs (some 1) none = xs.drop 1 := by
  cases xs with
  | nil => simp [cutV]
  | cons x r => simp [cutV, HT.sIx]
/-- what is wanted of each kind -/
def wantedOf (ks os : List Kind) (W : List (Int × Int × Int)) : Prop := ∃ es, Mixed ks os es ∧ W = ks.map (giveRow (sidesOf ks os 0 es))
theorem asc_uniq {xs ys : List Int} (hx : xs.Pairwise (· < ·)) (hy : ys.Pairwise (· < ·)) (h : ∀ z, z ∈ xs ↔ z ∈ ys) : xs = ys := by
  have nx : xs.Nodup := hx.imp fun h => by omega
  have ny : ys.Nodup := hy.imp fun h => by omega
  have p : xs.Perm ys := (List.perm_ext_iff_of_nodup nx ny).mpr h
  exact List.Perm.eq_of_pairwise (le := (· < ·)) (fun a b _ _ h1 h2 => by omega) hx hy p
theorem wanted_uniq {ks os : List Kind} {W V : List (Int × Int × Int)} (h : wantedOf ks os W) (h' : wantedOf ks os V) : W = V := by
  obtain ⟨es, m, rfl⟩ := h
  obtain ⟨fs, n, rfl⟩ := h'
  rw [asc_uniq m.1 n.1 fun z => (m.2 z).trans (n.2 z).symm]
/-- a claim of gifts and its certificate -/
def GiftAt (H : Hp) (ks ms : List Kind) (v : V) : Prop := (giftOf ks ms = none ∧ v = .non) ∨ ∃ (p c z : Addr) (least : Int) (W : List (Int × Int × Int)), v = .ref p ∧ giftOf ks ms = some least ∧ wantedOf ks ms W ∧ H p = some (.tup [.ref c, .ref z]) ∧ H c = some (.tup [.str "gifts", .str (sheetOf ks), .str (sheetOf ms), .int least]) ∧ RowsAt tripT H z (flowRows [] W)
theorem GiftAt.same {H H' : Hp} {ks ms : List Kind} {v : V} (h : GiftAt H ks ms v) (s : Same H H') : GiftAt H' ks ms v := by
  rcases h with h | ⟨p, c, z, l, W, h1, h2, h3, h4, h5, h6⟩
  · exact .inl h
  · exact .inr ⟨p, c, z, l, W, h1, h2, h3, s _ _ h4, s _ _ h5, h6.same s⟩
def spCertG (C : Addr) : Sp := fun vs H Q _ => ∃ (r r2 : Addr) (ks ms : List Kind), vs = [.ref r, .ref r2] ∧ PurseAt C H r ks ∧ PurseAt C H r2 ms ∧ ∀ v H', Same H H' → GiftAt H' ks ms v → Q v H'
def giftB (x : Int × Int × Int) (am : List Int) : Bool := decide (x.1 ∈ am) && (decide (x.2.1 ∈ am) && (decide (x.2.1 < x.1) && decide (x.2.2 ≥ 1)))
def spIsGift (K : PySem.W.Frag) : Sp := fun vs H Q _ => ∃ (r p : Addr) (x : Int × Int × Int) (am : List Int), vs = [.ref r, .ref p] ∧ SqT K H r (tripT x) ∧ H p = some (.lst (am.map V.int)) ∧ am.length ≤ 30 ∧ ∀ H', Same H H' → Q (.bl (giftB x am)) H'
def spSumAt (K : PySem.W.Frag) : Sp := fun vs H Q _ => ∃ (t : Addr) (R : List (Int × Int × Int)) (place a : Int), vs = [.ref t, .int place, .int a] ∧ RowsAt tripT H t R ∧ R.length ≤ 1000 ∧ (place = 0 ∨ place = 1) ∧ ∀ H', Same H H' → Q (.int (if place = 0 then sumG R a else sumT R a)) H'
def lexB : List (Int × Int × Int) → Bool
  | x :: y :: r => (decide (x.1 < y.1) || (decide (x.1 = y.1) && decide (x.2.1 < y.2.1))) && lexB (y :: r)
  | _ => true
def lexL (R : List (Int × Int × Int)) : List Bool := (R.zip (R.drop 1)).map fun p => (decide (p.1.1 < p.2.1) || (decide (p.1.1 = p.2.1) && decide (p.1.2.1 < p.2.2.1)))
theorem lexL_all : ∀ R : List (Int × Int × Int), (lexL R).all id = lexB R
  | [] => rfl
  | [_] => rfl
  | x :: y :: r => by
    have ih := lexL_all (y :: r)
    unfold lexL at *
    unfold lexB
    rw [List.drop_succ_cons, List.drop_zero, List.zip_cons_cons, List.map_cons, List.all_cons] at *
    rw [← ih]
    rfl
def giftsB (R W : List (Int × Int × Int)) : Bool := (R.all fun x => giftB x (W.map (·.1))) && (lexB R && decide (W = W.map fun w => (w.1, sumG R w.1, sumT R w.1)))
theorem lexB_of : ∀ {R : List (Int × Int × Int)}, R.Pairwise lexLt → lexB R = true
  | [], _ => rfl
  | [_], _ => rfl
  | x :: y :: r, h => by
    obtain ⟨h1, h2⟩ := List.pairwise_cons.mp h
    unfold lexB
    rw [lexB_of h2, Bool.and_true]
    rcases h1 y List.mem_cons_self with d | ⟨d, e⟩
    · rw [decide_eq_true d]; rfl
    · rw [decide_eq_true d, decide_eq_true e]; simp
theorem gifts_true {ks os : List Kind} (g : GoodK ks) (g' : GoodK os) {v : Int} (h : giftOf ks os = some v) {W : List (Int × Int × Int)} (hw : wantedOf ks os W) : giftsB (flowRows [] W) W = true := by
  obtain ⟨es, hm, rfl⟩ := hw
  have fl := flow_gifts g g' h hm
  have e : ((ks.map (giveRow (sidesOf ks os 0 es))).map (·.1)) = ks.map Prod.fst := by
    rw [List.map_map]
    rfl
  have out := flow_rows (W := ks.map (giveRow (sidesOf ks os 0 es))) (L := []) (by rw [e]; exact g.pair) (fun x hx => by cases hx) fl
  unfold giftsB
  rw [Bool.and_eq_true, Bool.and_eq_true]
  refine ⟨List.all_eq_true.mpr fun x hx => ?_, lexB_of out.lex, decide_eq_true ?_⟩
  · obtain ⟨h1, h2, h3, h4⟩ := out.row x hx
    have h2' := h2.resolve_left (fun z => by cases z)
    unfold giftB
    rw [decide_eq_true h1, decide_eq_true h2', decide_eq_true h3, decide_eq_true h4]
    rfl
  · have : ∀ w ∈ ks.map (giveRow (sidesOf ks os 0 es)), w = (w.1, sumG (flowRows [] (ks.map (giveRow (sidesOf ks os 0 es)))) w.1, sumT (flowRows [] (ks.map (giveRow (sidesOf ks os 0 es)))) w.1) := fun w hw => by
      obtain ⟨a, b⟩ := out.give w hw
      rw [a, b]
    have key : ∀ {l : List (Int × Int × Int)} {f : Int × Int × Int → Int × Int × Int}, (∀ w ∈ l, w = f w) → l = l.map f := fun {l} {f} => by
      induction l with
      | nil => intro _; rfl
      | cons x r ih =>
        intro hl
        rw [List.map_cons, ← hl x List.mem_cons_self, ← ih fun y hy => hl y (List.mem_cons_of_mem _ hy)]
    exact key this
def spAreGifts (K : PySem.W.Frag) : Sp := fun vs H Q _ => ∃ (t u : Addr) (R W : List (Int × Int × Int)), vs = [.ref t, .ref u] ∧ RowsAt tripT H t R ∧ R.length ≤ 1000 ∧ LRowsAt tripT H u W ∧ W.length ≤ 30 ∧ ∀ H', Same H H' → Q (.bl (giftsB R W)) H'
def spGiftsC (K : PySem.W.Frag) : Sp := fun vs H Q _ => ∃ (t z : Addr) (ks ms : List Kind) (goal : Int) (R : List (Int × Int × Int)), vs = [.ref t, .ref z] ∧ SqT K H t [.str (sheetOf ks), .str (sheetOf ms), .int goal] ∧ GoodK ks ∧ GoodK ms ∧ RowsAt tripT H z R ∧ R.length ≤ 1000 ∧
  ∀ H' b, Same H H' → (∀ W, wantedOf ks ms W → b = (decide (giftOf ks ms = some goal) && giftsB R W)) → (giftOf ks ms ≠ some goal → b = false) → Q (.bl b) H'
def spAcc5 (K : PySem.W.Frag) : Sp := spOr (spAcc4 K) (spAccepts "accepts_gifts" (spGiftsC K))
def spJud5 (K : PySem.W.Frag) : Sp := spOr (spJud4 K) (spJudged "accepts_gifts" (spGiftsC K))
end Ev

set_option Elab.async false
set_option linter.all false
set_option maxRecDepth 100000
set_option maxHeartbeats 4000000
namespace Ev
open PySem PySem.Spec PyProof.Rows L2 TL
/-! ### known certificates -/
structure Known (bs cs : List Band) (m : Bool) : Prop where
  g : Good bs
  g' : Good cs
  up : firstTurn cs = none
  ans : ∀ xs, Spots bs cs xs → (firstBrk bs cs xs).isNone = m
theorem known_one {f l g h : Int} (f0 : 0 ≤ f) (f1 : f ≤ 10 ^ 32) (l0 : 0 ≤ l) (l1 : l ≤ 1000) (g0 : 0 ≤ g) (g1 : g ≤ 10 ^ 32) (h0 : 1 ≤ h) (h1 : h ≤ 1000) : Known [(0, f, l)] [(0, g, h)] (decide (h * f ≥ l * g)) := by
  refine ⟨good1 f0 f1 l0 l1, good1 g0 g1 (by omega) h1, turn1 (by omega), fun xs sp => ?_⟩
  rw [sp.unique (spots_one f l g h), two_first l0 (by omega), if_pos (by omega)]
theorem known_taxed {e s : Int} (e0 : 1 ≤ e) (e1 : e ≤ 10 ^ 29) (s0 : 0 ≤ s) (s1 : s ≤ 100) : Known [(0, 0, 100), (e, 100 * e, s)] [(0, 0, 100)] true := by
  refine ⟨good2 (by decide) (by decide) (by decide) (by decide) e0 e1 (by omega) (by omega) s0 (by omega) (fun z => by omega), good_plainB, turn1 (by decide), fun xs sp => ?_⟩
  rw [(free_ans e0 s0 sp).first, if_pos s1]
  rfl
theorem known_down {e : Int} (e0 : 2 ≤ e) (e1 : e ≤ 10 ^ 29) : Known [(0, 0, 100), (e, 100 * (e - 1) - 1, 100)] [(0, 0, 100)] false := by
  refine ⟨good2 (by decide) (by decide) (by decide) (by decide) (by omega) e1 (by omega) (by omega) (by decide) (by decide) (fun z => by omega), good_plainB, turn1 (by decide), fun xs sp => ?_⟩
  rw [(down_ans e0 (by decide) sp).first]
  rfl
theorem some_brk {bs cs : List Band} {xs : List Int} {x : Int} (m : x ∈ xs) (h : brk (quad bs cs x) = true) : (firstBrk bs cs xs).isNone = false := by
  unfold firstBrk
  cases e : xs.find? (fun y => brk (quad bs cs y)) with
  | none => 
    have := List.find?_eq_none.mp e x m
    rw [h] at this
    exact absurd rfl this
  | some y => rfl
theorem known_drop : Known [(0, 1, 0), (1, 0, 0)] [(0, 0, 100)] false := by
  refine ⟨good2 (by decide) (by decide) (by decide) (by decide) (by decide) (by decide) (by decide) (by decide) (by decide) (by decide) (fun z => by omega), good_plainB, turn1 (by decide), fun xs sp => ?_⟩
  refine some_brk (x := 0) ((sp.mem 0).mpr ⟨(0, 1, 0), by simp, .inl rfl⟩) ?_
  decide +kernel
theorem known_falling {e s d : Int} (e0 : 1 ≤ e) (e1 : e ≤ 10 ^ 29) (s0 : 0 ≤ s) (s1 : s ≤ 100) (d0 : 1 ≤ d) (d1 : d ≤ 100) : Known [(0, 0, s), (e, s * e, s + d)] [(0, 0, 100)] false := by
  have m1 : 0 ≤ s * e := Int.mul_nonneg s0 (by omega)
  have m2 : s * e ≤ 100 * e := Int.mul_le_mul_of_nonneg_right s1 (by omega)
  refine ⟨good2 (by decide) (by decide) (by omega) (by omega) e0 e1 m1 (by omega) (by omega) (by omega) (fun z => by omega), good_plainB, turn1 (by decide), fun xs sp => ?_⟩
  refine some_brk (x := e) ((sp.mem e).mpr ⟨(e, s * e, s + d), by simp, .inl rfl⟩) ?_
  unfold quad
  rw [left_hi (by omega) (Int.le_refl e), left_hi (by omega) (show e ≤ e + 1 by omega), left_one (by omega), left_one (by omega)]
  refine brk_yes (by omega) ?_
  have q1 : (s * e + (s + d) * (e - e)) = s * e := by rw [Int.sub_self, Int.mul_zero, Int.add_zero]
  have q2 : (s * e + (s + d) * (e + 1 - e)) = s * e + (s + d) := by
    rw [show e + 1 - e = 1 by omega, Int.mul_one]
  rw [q1, q2, Int.zero_add, Int.zero_add, Int.mul_add 100 e 1, Int.mul_add, Int.add_mul]
  have a : 0 < d * (100 * e) := Int.mul_pos (by omega) (by omega)
  have b : s * e * (100 * 1) = s * (100 * e) := by grind
  have c : (s + d) * (100 * e) = s * (100 * e) + d * (100 * e) := Int.add_mul ..
  omega
theorem known_zero {e s : Int} (e0 : 1 ≤ e) (e1 : e ≤ 10 ^ 29) (s0 : 0 ≤ s) (s1 : s ≤ 100) : Known [(0, 0, 0)] [(0, 0, 100), (e, 100 * e, s)] true := by
  refine ⟨good1 (by decide) (by decide) (by decide) (by decide), (known_taxed e0 e1 s0 s1).g, ?_, fun xs sp => ?_⟩
  · rw [turn2 s0, if_neg (by omega), if_neg (by omega)]
  · have z : ∀ x ∈ xs, brk (quad [(0, 0, 0)] [(0, 0, 100), (e, 100 * e, s)] x) = false := fun x hx => by
      have x0 := (spot_bounds (good1 (v := 0) (s := 0) (by decide) (by decide) (by decide) (by decide)).tame (known_taxed e0 e1 s0 s1).g.tame ((sp.mem x).mp hx)).1
      unfold quad brk
      rw [left_one x0, left_one (by omega)]
      dsimp only
      split
      · simp
      · simp
    unfold firstBrk
    rw [List.find?_eq_none.mpr fun x hx => by rw [z x hx]; decide]
    rfl
def wordM (m : Bool) : Str := if m then "more" else "not more"
/-- a row: two rules and the word for them -/
def RowQ (H : Hp) (r : Addr) : Prop := ∃ (t u : Addr) (bs cs : List Band) (m : Bool), H r = some (.tup [.ref t, .ref u, .str (wordM m)]) ∧ BandsAt H t bs ∧ BandsAt H u cs ∧ Known bs cs m
theorem RowQ.same {H H' : Hp} {r : Addr} (h : RowQ H r) (s : Same H H') : RowQ H' r := by
  obtain ⟨t, u, bs, cs, m, h1, h2, h3, h4⟩ := h
  exact ⟨t, u, bs, cs, m, s _ _ h1, h2.same s, h3.same s, h4⟩
theorem bands_two {H : Hp} {a b t : Addr} {x y : Band} (ha : H a = some (.tup (bandT x))) (hb : H b = some (.tup (bandT y))) (ht : H t = some (.tup [.ref a, .ref b])) : BandsAt H t [x, y] := bands_of_rows (rows_two ha hb) (by rw [ht]; rfl)
theorem tIf_cutV {t : TT} {a b : TE} {σ : L2.St} {H : Hp} {Q : VK} (S : V → Hp → Prop) (h : ∀ N : VK, (∀ v H', S v H' → N v H') → tIf t a b σ H N) (k : ∀ v H', S v H' → Q v H') : tIf t a b σ H Q := h Q k
end Ev

set_option Elab.async false
set_option linter.all false
set_option maxRecDepth 100000
set_option maxHeartbeats 4000000
namespace Ev
open PySem PySem.Spec PyProof.Rows L2 TL
/-! ### known purses -/
def partedK (p m : Int) : List Kind := [(0, m), (2 * p, m)]
def wholeK (p m : Int) : List Kind := [(p, 2 * m)]
theorem good_duo {a c b d : Int} (a0 : 0 ≤ a) (ab : a < b) (b1 : b ≤ 10 ^ 36) (c1 : 1 ≤ c) (c2 : c ≤ 10 ^ 72) (d1 : 1 ≤ d) (d2 : d ≤ 10 ^ 72) : GoodK [(a, c), (b, d)] := good_pair a0 ab b1 c1 c2 d1 d2
theorem good_parted {p m : Int} (p0 : 1 ≤ p) (p1 : p ≤ 10 ^ 30) (m0 : 1 ≤ m) (m1 : m ≤ 10 ^ 30) : GoodK (partedK p m) := good_duo (by decide) (by omega) (by omega) m0 (by omega) m0 (by omega)
theorem good_whole {p m : Int} (p0 : 1 ≤ p) (p1 : p ≤ 10 ^ 30) (m0 : 1 ≤ m) (m1 : m ≤ 10 ^ 30) : GoodK (wholeK p m) := good_one (by omega) (by omega) (by omega) (by omega)
theorem heap_parted (p : Int) (M : Nat) : heapOf (partedK p M) = List.replicate M 0 ++ (List.replicate M (2 * p) ++ []) := by
  unfold partedK
  rw [heap_cons, heap_cons, Int.toNat_natCast]
  rfl
theorem heap_whole (p : Int) (M : Nat) : heapOf (wholeK p M) = List.replicate M p ++ (List.replicate M p ++ []) := by
  unfold wholeK
  rw [heap_cons, show (2 * (M : Int)).toNat = M + M by omega, ← List.replicate_append_replicate, List.append_assoc]
  rfl
theorem people_parted (p m : Int) : peopleOf (partedK p m) = 2 * m := by simp [peopleOf, partedK]; omega
theorem people_whole (p m : Int) : peopleOf (wholeK p m) = 2 * m := by simp [peopleOf, wholeK]
theorem total_parted (p m : Int) : totalOf (partedK p m) = 2 * p * m := by simp [totalOf, partedK]
theorem total_whole (p m : Int) : totalOf (wholeK p m) = 2 * p * m := by
  simp [totalOf, wholeK]
  grind
section
variable {p m : Int} (p0 : 1 ≤ p) (p1 : p ≤ 10 ^ 30) (m0 : 1 ≤ m) (m1 : m ≤ 10 ^ 30)
include p0 p1 m0 m1
theorem whole_even : asE (wholeK p m) (partedK p m) = true := (asE_iff (good_whole p0 p1 m0 m1) (good_parted p0 p1 m0 m1)).mpr (dom_lone (by omega) (by omega) (good_parted p0 p1 m0 m1))
theorem parted_uneven : asE (partedK p m) (wholeK p m) = false := by
  have g := good_whole p0 p1 m0 m1
  have g' := good_parted p0 p1 m0 m1
  rw [Bool.eq_false_iff]
  intro h
  have d := (asE_iff g' g).mp h
  obtain ⟨M, rfl⟩ : ∃ M : Nat, m = (M : Int) := ⟨m.toNat, by omega⟩
  have lo := (dom_low g g' (by rw [people_parted, people_whole]) (by rw [total_parted, total_whole])).mp d M (by rw [people_whole]; omega)
  rw [heap_parted, heap_whole, List.take_append_of_le_length (by rw [List.length_replicate]; exact Nat.le_refl _), List.take_append_of_le_length (by rw [List.length_replicate]; exact Nat.le_refl _), List.take_replicate, List.take_replicate, Nat.min_self, rep_sum, rep_sum] at lo
  have : 0 < (M : Int) * p := Int.mul_pos (by omega) (by omega)
  omega
theorem gift_parted : giftOf (partedK p m) (wholeK p m) = some (p * m) := by
  have g := good_whole p0 p1 m0 m1
  have g' := good_parted p0 p1 m0 m1
  have cn : crossOf (wholeK p m) (partedK p m) = none := by
    have := (asE_cross g g').trans (whole_even p0 p1 m0 m1)
    exact Option.isNone_iff_eq_none.mp this
  unfold giftOf
  rw [if_pos ⟨by rw [people_parted, people_whole], by rw [total_parted, total_whole], cn⟩]
  obtain ⟨M, rfl⟩ : ∃ M : Nat, m = (M : Int) := ⟨m.toNat, by omega⟩
  rw [heap_parted, heap_whole, giftH_rep, giftH_rep]
  unfold pos0
  rw [if_neg (by omega), if_pos (by omega)]
  show some ((M : Int) * 0 + ((M : Int) * (2 * p - p) + 0)) = _
  congr 1
  rw [show 2 * p - p = p by omega, Int.mul_zero, Int.mul_comm p]
  omega
theorem gift_back : giftOf (wholeK p m) (partedK p m) = none := by
  have g := good_whole p0 p1 m0 m1
  have g' := good_parted p0 p1 m0 m1
  have cn := (asE_cross g' g).trans (parted_uneven p0 p1 m0 m1)
  unfold giftOf
  rw [if_neg]
  rintro ⟨_, _, e⟩
  rw [e] at cn
  cases cn
theorem gift_none : giftOf (wholeK p m) (wholeK p m) = some 0 := by
  have g := good_whole p0 p1 m0 m1
  have cn : crossOf (wholeK p m) (wholeK p m) = none := by
    have := (asE_cross g g).trans ((asE_iff g g).mpr (Dom.refl _))
    exact Option.isNone_iff_eq_none.mp this
  unfold giftOf
  rw [if_pos ⟨rfl, rfl, cn⟩]
  obtain ⟨M, rfl⟩ : ∃ M : Nat, m = (M : Int) := ⟨m.toNat, by omega⟩
  rw [heap_whole, giftH_rep, giftH_rep]
  unfold pos0
  rw [if_neg (by omega)]
  show some ((M : Int) * 0 + ((M : Int) * 0 + 0)) = _
  rw [Int.mul_zero]
  rfl
theorem rows_parted {W : List (Int × Int × Int)} (h : wantedOf (partedK p m) (wholeK p m) W) : flowRows [] W = [(2 * p, 0, p * m)] := by
  have g := good_whole p0 p1 m0 m1
  have g' := good_parted p0 p1 m0 m1
  obtain ⟨es, hm, rfl⟩ := h
  have e : (partedK p m).map (giveRow (sidesOf (partedK p m) (wholeK p m) 0 es)) = (partedK p m).map fun k => rowF (heapOf (partedK p m)) (heapOf (wholeK p m)) k.1 := List.map_congr_left fun k _ => row_of g' g (by rw [people_parted, people_whole]) hm k
  rw [e]
  obtain ⟨M, rfl⟩ : ∃ M : Nat, m = (M : Int) := ⟨m.toNat, by omega⟩
  have pm : 0 < p * (M : Int) := Int.mul_pos (by omega) (by omega)
  have z : ∀ φ : Int → Int → Int, zsum φ (heapOf (partedK p M)) (heapOf (wholeK p M)) = M * φ 0 p + M * φ (2 * p) p := fun φ => by
    rw [heap_parted, heap_whole, zsum_rep, zsum_rep]
    show _ + (_ + (0 : Int)) = _
    omega
  have r1 : rowF (heapOf (partedK p M)) (heapOf (wholeK p M)) 0 = (0, 0, p * M) := by
    unfold rowF
    rw [z, z]
    unfold gPhi aPhi pos0
    rw [if_pos rfl, if_neg (by omega), if_neg (by omega), if_pos rfl, if_neg (by omega)]
    rw [Int.mul_zero, Int.add_zero, Int.zero_sub, show (M : Int) * (0 - p) = -(p * M) by rw [Int.zero_sub, Int.mul_neg, Int.mul_comm]]
    show ((0 : Int), (0 : Int), -(-(p * (M : Int)) + 0)) = _
    rw [Int.add_zero, Int.neg_neg]
  have r2 : rowF (heapOf (partedK p M)) (heapOf (wholeK p M)) (2 * p) = (2 * p, p * M, 0) := by
    unfold rowF
    rw [z, z]
    unfold gPhi aPhi pos0
    rw [if_neg (by omega), if_pos rfl, if_pos (by omega), if_neg (by omega), if_pos rfl]
    rw [show 2 * p - p = p by omega, Int.mul_zero, Int.zero_add, Int.sub_self, Int.mul_comm (M : Int) p]
  show flowRows [] [rowF (heapOf (partedK p M)) (heapOf (wholeK p M)) 0, rowF (heapOf (partedK p M)) (heapOf (wholeK p M)) (2 * p)] = _
  rw [r1, r2, flow_cons, flow_cons]
  have e1 : give1 0 [] = ([], []) := rfl
  dsimp only
  rw [e1]
  dsimp only
  rw [List.nil_append, give1_cons, Int.min_self, if_pos pm]
  rfl
theorem rows_whole {W : List (Int × Int × Int)} (h : wantedOf (wholeK p m) (wholeK p m) W) : flowRows [] W = [] := by
  have g := good_whole p0 p1 m0 m1
  obtain ⟨es, hm, rfl⟩ := h
  have e : (wholeK p m).map (giveRow (sidesOf (wholeK p m) (wholeK p m) 0 es)) = (wholeK p m).map fun k => rowF (heapOf (wholeK p m)) (heapOf (wholeK p m)) k.1 := List.map_congr_left fun k _ => row_of g g rfl hm k
  rw [e]
  rfl
theorem even_often {t : Int} (t0 : 1 ≤ t) (t1 : t ≤ 100) : GoodK [(0, t * m), (2 * p, t * m)] ∧ asE [(0, t * m), (2 * p, t * m)] (partedK p m) = true ∧ asE (partedK p m) [(0, t * m), (2 * p, t * m)] = true := by
  have g := good_parted p0 p1 m0 m1
  have gw : GoodK (wideK t (partedK p m)) := g.wide (B := 10 ^ 30) t0 (fun k hk => by
    simp only [partedK, List.mem_cons, List.not_mem_nil, or_false] at hk
    rcases hk with e | e <;> (rw [e]; exact m1)) (by omega)
  have e : wideK t (partedK p m) = [(0, t * m), (2 * p, t * m)] := rfl
  rw [← e]
  exact ⟨gw, (asE_iff gw g).mpr (even_wide t0 _).symm.dom, (asE_iff g gw).mpr (even_wide t0 _).dom⟩
theorem even_richer {t : Int} (t0 : 1 ≤ t) (t1 : t ≤ 100) : GoodK [(0, m), (2 * p * t, m)] ∧ asE [(0, m), (2 * p * t, m)] (partedK p m) = true ∧ asE (partedK p m) [(0, m), (2 * p * t, m)] = true := by
  have g := good_parted p0 p1 m0 m1
  have gw : GoodK (tallK t (partedK p m)) := g.tall (A := 2 * 10 ^ 30) t0 (fun k hk => by
    simp only [partedK, List.mem_cons, List.not_mem_nil, or_false] at hk
    rcases hk with e | e <;> (rw [e]; show _ ≤ _; omega)) (by omega)
  have e : tallK t (partedK p m) = [(0, m), (2 * p * t, m)] := by
    unfold tallK partedK
    rw [List.map_cons, List.map_cons, List.map_nil, Int.mul_zero, Int.mul_comm t]
  rw [← e]
  exact ⟨gw, (asE_iff gw g).mpr (even_tall t0 _).symm.dom, (asE_iff g gw).mpr (even_tall t0 _).dom⟩
theorem even_nothing : GoodK [(0, m)] ∧ asE [(0, m)] (wholeK p m) = true := by
  have g := good_whole p0 p1 m0 m1
  have g' : GoodK [((0 : Int), m)] := good_one (by decide) (by decide) m0 (by omega)
  exact ⟨g', (asE_iff g' g).mpr (dom_lone (by decide) m0 g)⟩
end
def wordE (b : Bool) : Str := if b then "even" else "uneven"
/-- a row: two purses and the word for them -/
def RowO (H : Hp) (r : Addr) : Prop := ∃ (t u : Addr) (ks ms : List Kind) (b : Bool), H r = some (.tup [.ref t, .ref u, .str (wordE b)]) ∧ KindsAt H t ks ∧ GoodK ks ∧ KindsAt H u ms ∧ GoodK ms ∧ asE ks ms = b
theorem RowO.same {H H' : Hp} {r : Addr} (h : RowO H r) (s : Same H H') : RowO H' r := by
  obtain ⟨t, u, ks, ms, b, h1, h2, g1, h3, g2, h4⟩ := h
  exact ⟨t, u, ks, ms, b, s _ _ h1, h2.same s, g1, h3.same s, g2, h4⟩
end Ev

set_option Elab.async false
set_option linter.all false
set_option maxRecDepth 100000
set_option maxHeartbeats 4000000
namespace Ev
open PySem PySem.Spec PyProof.Rows L2
-- (C CP : Addr)

section
variable {P : Program} {w : World} {K : PySem.W.Frag} {mg : Str → Option Value} {base : Heap} {C CP : Addr}
theorem ok_is_integer {f : Addr} {fd : FuncData} (F : Fun K "is_integer" "is_integer" s_is_integer_integers f fd) (T : Txt K mg C CP) : FnOk P w K mg base CX0 1 f fd ["value"] (spIsInteger K) := by
  refine F.ok sc_is_integer_integers (fun vs H Q E h => ?_) (fun cdv A outer s H vs Q E hr h => ?_)
  · obtain ⟨v, rfl, _⟩ := h
    rfl
  · obtain ⟨v, rfl, h⟩ := h
    refine ⟨_, (pss_one (ps_ret (pe_and (pe_callB call_isi (by rfl) T.b_isinstance (by decide +kernel) (pa_cons (pv 0) (pa_cons (pe_bltn (v := .ty "int") (by rfl) T.b_int (by decide +kernel) rfl) pa_nil))) (pe_one (pe_not (pe_callB call_isi (by rfl) T.b_isinstance (by decide +kernel) (pa_cons (pv 0) (pa_cons (pe_bltn (v := .ty "bool") (by rfl) T.b_bool (by decide +kernel) rfl) pa_nil)))))))), ?_⟩
    rcases h with ⟨i, rfl, q⟩ | ⟨b, rfl, q⟩ | ⟨T0, ht, hk, q⟩
    · exact ⟨_, rfl, _, _, _, _, true, rfl, .ty _, .base (.int i), kit_int, _, rfl, iteT ⟨_, rfl, _, _, _, _, false, rfl, .ty _, .base (.int i), kit_int_bool, _, rfl, q⟩⟩
    · exact ⟨_, rfl, _, _, _, _, true, rfl, .ty _, .base (.bl b), kit_bool_int, _, rfl, iteT ⟨_, rfl, _, _, _, _, true, rfl, .ty _, .base (.bl b), kit_bool, _, rfl, q⟩⟩
    · exact ⟨_, rfl, _, _, _, _, false, rfl, .ty _, ht, hk, _, rfl, iteF q⟩
theorem ok_is_within {f : Addr} {fd : FuncData} (F : Fun K "is_within" "is_within" s_is_within f fd) (T : Txt K mg C CP) (d_is_integer_integers : Def P w K mg base "is_integer_integers" ["value"] 1 (spIsInteger K)) : FnOk P w K mg base CX0 2 f fd ["value", "least", "most"] (spWithin K) := by
  refine F.ok sc_is_within (fun vs H Q E h => ?_) (fun cdv A outer s H vs Q E hr h => ?_)
  · obtain ⟨v, lo, hi, rfl, _⟩ := h
    rfl
  · obtain ⟨v, lo, hi, rfl, h⟩ := h
    refine ⟨_, (pss_one (ps_ret (pe_and (pe_def d_is_integer_integers (hr.mono (by decide)) (by rfl) (pa_cons (pv 0) pa_nil)) (pe_one (pe_chain op_le op_le (pv 1) (pv 0) (pv 2)))))), ?_⟩
    rcases h with ⟨i, rfl, q⟩ | ⟨b, rfl, q⟩ | ⟨T0, ht, hk, q⟩
    · refine ⟨_, rfl, _, rfl, .inl ⟨i, rfl, _, rfl, iteT ?_⟩⟩
      refine ⟨_, rfl, _, rfl, _, _, rfl, rfl, _, rfl, ite2 (fun c => ?_) (fun c => ?_)⟩
      · have c1 : lo ≤ i := of_decide_eq_true c
        refine ⟨_, rfl, _, _, rfl, rfl, ?_⟩
        have e : decide (lo ≤ i ∧ i ≤ hi) = decide (i ≤ hi) := by simp [c1]
        rw [e] at q
        exact q
      · have c1 : ¬ lo ≤ i := fun z => c (decide_eq_true z)
        have e : decide (lo ≤ i ∧ i ≤ hi) = false := by simp [c1]
        rw [e] at q
        exact q
    · exact ⟨_, rfl, _, rfl, .inr (.inl ⟨b, rfl, _, rfl, iteF q⟩)⟩
    · exact ⟨_, rfl, _, rfl, .inr (.inr ⟨T0, ht, hk, _, rfl, iteF q⟩)⟩
end

/-! ### the program's defs -/
section
variable {P : Program} {w : World} {K : PySem.W.Frag} {mg : Str → Option Value} {base : Heap} {C CP : Addr}
theorem ok_is_value {f : Addr} {fd : FuncData} (F : Fun K "is_value" "is_value" s_is_value f fd) (T : Txt K mg C CP) (d_is_within : Def P w K mg base "is_within" ["value", "least", "most"] 2 (spWithin K)) : FnOk P w K mg base CX0 3 f fd ["value"] (spInt1 0 (10 ^ 32)) := by
  refine F.ok sc_is_value (fun vs H Q E h => ?_) (fun cdv A outer s H vs Q E hr h => ?_)
  · obtain ⟨i, rfl, _⟩ := h
    rfl
  · obtain ⟨i, rfl, q⟩ := h
    exact ⟨_, (pss_one (ps_ret (pe_def d_is_within (hr.mono (by decide)) (by rfl) (pa_cons (pv 0) (pa_cons pe_int (pa_cons (pe_globI (by rfl) T.c_MOST_VALUE) pa_nil)))))), ⟨_, rfl, _, _, _, rfl, .inl ⟨_, rfl, q⟩⟩⟩
theorem ok_is_step {f : Addr} {fd : FuncData} (F : Fun K "is_step" "is_step" s_is_step f fd) (T : Txt K mg C CP) (d_is_within : Def P w K mg base "is_within" ["value", "least", "most"] 2 (spWithin K)) : FnOk P w K mg base CX0 3 f fd ["step"] (spInt1 (-1000) 1000) := by
  refine F.ok sc_is_step (fun vs H Q E h => ?_) (fun cdv A outer s H vs Q E hr h => ?_)
  · obtain ⟨i, rfl, _⟩ := h
    rfl
  · obtain ⟨i, rfl, q⟩ := h
    exact ⟨_, (pss_one (ps_ret (pe_def d_is_within (hr.mono (by decide)) (by rfl) (pa_cons (pv 0) (pa_cons (pe_un un_neg (pe_globI (by rfl) T.c_MOST_STEP)) (pa_cons (pe_globI (by rfl) T.c_MOST_STEP) pa_nil)))))), ⟨_, rfl, _, rfl, _, _, _, rfl, .inl ⟨_, rfl, q⟩⟩⟩
theorem ok_last_income {f : Addr} {fd : FuncData} (F : Fun K "last_income" "last_income" s_last_income f fd) (T : Txt K mg C CP) : FnOk P w K mg base CX0 1 f fd ["bands", "index"] spLastIncome := by
  refine F.ok sc_last_income (fun vs H Q E h => ?_) (fun cdv A outer s H vs Q E hr h => ?_)
  · obtain ⟨t, bs, i, rfl, _⟩ := h
    rfl
  · obtain ⟨t, bs, i, rfl, hb, hi, q⟩ := h
    obtain ⟨rs, h1, h2, h3⟩ := hb.get (K := K)
    refine ⟨_, (pss_cons (ps_if (pt_cmpR op_eq (pe_op op_add (pv 1) pe_int) (pe_callB call_len_seq (by rfl) T.b_len (by decide +kernel) (pa_cons (pv 0) pa_nil)) (nomark _))
    (pss_one (ps_ret pe_non))
    pss_nil)
  (pss_one (ps_ret (pe_op op_sub (pe_ix ix_tup (pe_ix ix_tup (pv 0) (pe_op op_add (pv 1) pe_int) (fun _ _ => rfl)) pe_int (fun _ _ => rfl)) pe_int)))), ?_⟩
    refine ⟨_, rfl, _, 1, rfl, rfl, _, rfl, t, _, rfl, .inr h1, rfl, _, rfl, ite2 (fun c => ?_) (fun c => ?_)⟩
    · have e : ((i : Int) + 1) = ((rs.map V.ref).length : Int) := V.int.inj (of_decide_eq_true c)
      rw [List.length_map, h2] at e
      have n : bs[i + 1]? = none := List.getElem?_eq_none (by omega)
      unfold lastOf at q
      rw [n] at q
      exact q
    · have e : ¬ ((i : Int) + 1) = ((rs.map V.ref).length : Int) := fun z => c (decide_eq_true (congrArg V.int z))
      rw [List.length_map, h2] at e
      have n : bs[i + 1]? = some (bs[i + 1]'(by omega)) := List.getElem?_eq_getElem _
      obtain ⟨r, _, hr2, hr3⟩ := h3 _ _ n
      unfold lastOf at q
      rw [n] at q
      refine ⟨_, rfl, _, rfl, _, 1, rfl, rfl, t, _, _, _, rfl, rfl, h1, atI_nat (j := i + 1) hr2, r, _, 0, _, rfl, rfl, hr3, at0, _, 1, rfl, rfl, q⟩
theorem ok_is_band {f : Addr} {fd : FuncData} (F : Fun K "is_band" "is_band" s_is_band f fd) (T : Txt K mg C CP) (d_is_within : Def P w K mg base "is_within" ["value", "least", "most"] 2 (spWithin K)) (d_is_value : Def P w K mg base "is_value" ["value"] 3 (spInt1 0 (10 ^ 32)))
    (d_is_step : Def P w K mg base "is_step" ["step"] 3 (spInt1 (-1000) 1000)) : FnOk P w K mg base CX0 4 f fd ["band", "least", "most"] (spIsBand K) := by
  refine F.ok sc_is_band (fun vs H Q E h => ?_) (fun cdv A outer s H vs Q E hr h => ?_)
  · obtain ⟨r, b, lo, hi, rfl, _⟩ := h
    rfl
  · obtain ⟨r, b, lo, hi, rfl, hT, q⟩ := h
    refine ⟨_, (pss_cons (ps_if (PW.pt (pw_or (pt_not (pt_val (pe_callB call_isi (by rfl) T.b_isinstance (by decide +kernel) (pa_cons (pv 0) (pa_cons (pe_bltn (v := .ty "tuple") (by rfl) T.b_tuple (by decide +kernel) rfl) pa_nil))))) (pw_or1 (pt_cmpR op_ne (pe_callB call_len_seq (by rfl) T.b_len (by decide +kernel) (pa_cons (pv 0) pa_nil)) pe_int (nomark _)))))
    (pss_one (ps_ret pe_bl))
    pss_nil)
  (pss_cons (ps_asg (pv 0) (pg_tup (by rfl) (pgs_cons (pg_name (i := 3) sc_is_band.nd rfl (Or.inl rfl)) (pgs_cons (pg_name (i := 4) sc_is_band.nd rfl (Or.inl rfl)) (pgs_cons (pg_name (i := 5) sc_is_band.nd rfl (Or.inl rfl)) pgs_nil)))))
  (pss_one (ps_ret (pe_and (pe_def d_is_within (hr.mono (by decide)) (by rfl) (pa_cons (pv 3) (pa_cons (pv 1) (pa_cons (pv 2) pa_nil)))) (pe_and (pe_def d_is_value (hr.mono (by decide)) (by rfl) (pa_cons (pv 4) pa_nil)) (pe_one (pe_def d_is_step (hr.mono (by decide)) (by rfl) (pa_cons (pv 5) pa_nil))))))))), ?_⟩
    refine ⟨_, rfl, _, _, _, _, true, rfl, .ty _, tyT hT, kit_tup, _, rfl, iteF ⟨_, rfl, r, _, rfl, .inr hT, rfl, _, rfl, iteF ?_⟩⟩
    refine ⟨_, rfl, r, _, rfl, hT, rfl, _, _, rfl, _, _, rfl, _, _, rfl, rfl, ?_⟩
    refine ⟨_, rfl, _, rfl, _, rfl, _, _, _, rfl, .inl ⟨b.1, rfl, _, rfl, ite2 (fun c => ?_) (fun c => ?_)⟩⟩
    · rw [c] at q
      refine ⟨_, rfl, b.2.1, rfl, _, rfl, ite2 (fun c2 => ?_) (fun c2 => ?_)⟩
      · rw [c2] at q
        exact ⟨_, rfl, b.2.2, rfl, q⟩
      · rw [(by simpa using c2 : decide (0 ≤ b.2.1 ∧ b.2.1 ≤ 10 ^ 32) = false)] at q
        exact q
    · rw [(by simpa using c : decide (lo ≤ b.1 ∧ b.1 ≤ hi) = false)] at q
      exact q
end

section
variable {P : Program} {w : World} {K : PySem.W.Frag} {mg : Str → Option Value} {base : Heap} {C CP : Addr}
theorem ok_first_wrong {f : Addr} {fd : FuncData} (F : Fun K "first_wrong" "first_wrong" s_first_wrong_rules f fd) (T : Txt K mg C CP) (d_is_band : Def P w K mg base "is_band" ["band", "least", "most"] 4 (spIsBand K)) : FnOk P w K mg base CX0 5 f fd ["bands"] spNoneOf := by
  refine F.ok sc_first_wrong_rules (fun vs H Q E h => ?_) (fun cdv A outer s H vs Q E hr h => ?_)
  · obtain ⟨t, bs, rfl, _⟩ := h
    rfl
  · obtain ⟨t, bs, rfl, hB, g, q⟩ := h
    obtain ⟨rs, h1, h2, h3⟩ := hB.sq (K := K)
    refine ⟨_, (pss_cons (ps_asg (pe_tup (pa_cons pe_int (pa_cons pe_int pa_nil))) (pg_tup (by rfl) (pgs_cons (pg_name (i := 1) sc_first_wrong_rules.nd rfl (Or.inl rfl)) (pgs_cons (pg_name (i := 2) sc_first_wrong_rules.nd rfl (Or.inl rfl)) pgs_nil))))
  (pss_cons (ps_for PassesOwn.never rfl (pi_enumT (by rfl) T.b_enumerate (pa_cons (pv 0) pa_nil)) (pg_tup (by rfl) (pgs_cons (pg_name (i := 3) sc_first_wrong_rules.nd rfl (Or.inl rfl)) (pgs_cons (pg_name (i := 4) sc_first_wrong_rules.nd rfl (Or.inl rfl)) pgs_nil)))
    (pss_cons (ps_if (PW.pt (pw_or (pt_cmpR op_eq (pv 3) (pe_globI (by rfl) T.c_MOST_BANDS) (nomark _)) (pw_or1 (pt_not (pt_val (pe_def d_is_band (hr.mono (by decide)) (by rfl) (pa_cons (pv 4) (pa_cons (pv 1) (pa_cons (pv 2) pa_nil)))))))))
    (pss_one (ps_ret (pv 3)))
    pss_nil)
  (pss_one (ps_par (i := 1) (j := 2) (by rfl) sc_first_wrong_rules.nd rfl rfl (by decide) rfl rfl (pa_cons (pe_op op_add (pe_ix ix_tup (pv 4) pe_int (fun _ _ => rfl)) pe_int) (pa_cons (pe_globI (by rfl) T.c_MOST_START) pa_nil)) (by rfl)))))
  (pss_one (ps_ret pe_non)))), ?_⟩
    refine ⟨(by show 2 ≤ sizeLine; decide), fun T1 hT1 => ⟨T1, _, rfl, SqT.of upd_same, rfl, _, _, rfl, _, _, rfl, rfl, ?_⟩⟩
    have s0 := same_new (o := .tup [.int 0, .int 0]) hT1
    refine ⟨_, rfl, t, _, rfl, same_t s0 h1, for_it walk_enumT (fun i σ H' => ∃ (lo hi : Int) (x3 x4 : Option V), σ = [some (.ref t), some (.int lo), some (.int hi), x3, x4] ∧ Same H H' ∧ ∀ b, bs[i]? = some b → lo ≤ b.1 ∧ b.1 ≤ hi)
      ⟨0, 0, none, none, rfl, s0, fun b hb => ?_⟩ (fun i σ H' _ ⟨_, _, _, _, _, s1, _⟩ => same_t s1 h1) ?_ ?_⟩
    · have := g.first b hb
      omega
    · rintro i x σ H1 H2 hi ⟨lo, hi', x3, x4, rfl, s1, hlo⟩ ⟨T0, y, rfl, hT0, rfl, hy⟩
      obtain ⟨r, b, rfl, hr', hb⟩ := band_at h2 hy
      have s2 : Same H (upd H1 T0 (.tup [.int (i : Nat), .ref r])) := s1.trans (same_new hT0)
      have hbT := same_t s2 (h3 i r b hr' hb)
      have hm := List.mem_of_getElem? hb
      obtain ⟨b1, b2⟩ := hlo b hb
      have i8 : i < 8 := by
        have := g.len8
        rw [List.length_map] at hi
        omega
      refine ⟨T0, _, rfl, SqT.of upd_same, rfl, _, _, rfl, _, _, rfl, rfl, ?_⟩
      refine ⟨_, rfl, rfl, _, rfl, ite2 (fun c => ?_) (fun _ => ?_)⟩
      · have e : (i : Int) = 8 := V.int.inj (of_decide_eq_true c)
        omega
      · refine ⟨_, rfl, _, rfl, _, rfl, r, b, lo, hi', rfl, hbT, _, rfl, ite2 (fun c => ?_) (fun _ => ?_)⟩
        · exfalso
          have v := g.value b hm
          have st := g.step b hm
          revert c
          simp only [b1, b2, v.1, v.2, st.1, st.2, and_self, decide_true, Bool.and_self, Bool.not_true]
          intro c
          cases c
        · refine ⟨_, rfl, r, _, 0, _, rfl, rfl, hbT, at0, _, 1, rfl, rfl, _, _, rfl, ?_⟩
          refine ⟨b.1 + 1, 10 ^ 29, _, _, rfl, s2, fun c hc => ?_⟩
          have := g.rises i b c hb hc
          exact ⟨by omega, g.start c (List.mem_of_getElem? hc)⟩
    · rintro σ H1 ⟨lo, hi', x3, x4, rfl, s1, hlo⟩
      exact q H1 s1
theorem ok_first_below {f : Addr} {fd : FuncData} (F : Fun K "first_below" "first_below" s_first_below f fd) (T : Txt K mg C CP) (d_last_income : Def P w K mg base "last_income" ["bands", "index"] 1 spLastIncome) : FnOk P w K mg base CX0 2 f fd ["bands"] spNoneOf := by
  refine F.ok sc_first_below (fun vs H Q E h => ?_) (fun cdv A outer s H vs Q E hr h => ?_)
  · obtain ⟨t, bs, rfl, _⟩ := h
    rfl
  · obtain ⟨t, bs, rfl, hB, g, q⟩ := h
    obtain ⟨rs, h1, h2, h3⟩ := hB.sq (K := K)
    refine ⟨_, (pss_cons (ps_for PassesOwn.never rfl (pi_enumT (by rfl) T.b_enumerate (pa_cons (pv 0) pa_nil)) (pg_tup (by rfl) (pgs_cons (pg_name (i := 1) sc_first_below.nd rfl (Or.inl rfl)) (pgs_cons (pg_tup (by rfl) (pgs_cons (pg_name (i := 2) sc_first_below.nd rfl (Or.inl rfl)) (pgs_cons (pg_name (i := 3) sc_first_below.nd rfl (Or.inl rfl)) (pgs_cons (pg_name (i := 4) sc_first_below.nd rfl (Or.inl rfl)) pgs_nil)))) pgs_nil)))
    (pss_cons (ps_set (i := 5) sc_first_below.nd rfl (Or.inl rfl) (pe_def d_last_income (hr.mono (by decide)) (by rfl) (pa_cons (pv 0) (pa_cons (pv 1) pa_nil))))
  (pss_one (ps_if (PW.pt (pw_and (pt_cmpR op_lt (pv 4) pe_int (nomark _)) (pw_and1 (PW.pt (pw_or (pt_cmpR op_isN (pv 5) pe_non (nomark _)) (pw_or1 (pt_cmpR op_lt (pe_op op_add (pv 3) (pe_op op_mul (pv 4) (pe_op op_sub (pv 5) (pv 2)))) pe_int (nomark _))))))))
    (pss_one (ps_ret (pv 1)))
    pss_nil))))
  (pss_one (ps_ret pe_non))), ?_⟩
    refine ⟨_, rfl, t, _, rfl, h1, for_it walk_enumT (fun i σ H' => ∃ (x1 x2 x3 x4 x5 : Option V), σ = [some (.ref t), x1, x2, x3, x4, x5] ∧ Same H H')
      ⟨none, none, none, none, none, rfl, Same.refl H⟩ (fun i σ H' _ ⟨_, _, _, _, _, _, s1⟩ => same_t s1 h1) ?_ ?_⟩
    · rintro i x σ H1 H2 hi ⟨x1, x2, x3, x4, x5, rfl, s1⟩ ⟨T0, y, rfl, hT0, rfl, hy⟩
      obtain ⟨r, b, rfl, hr', hb⟩ := band_at h2 hy
      have s2 : Same H (upd H1 T0 (.tup [.int (i : Nat), .ref r])) := s1.trans (same_new hT0)
      have hbT := same_t s2 (h3 i r b hr' hb)
      have hm := List.mem_of_getElem? hb
      refine ⟨T0, _, rfl, SqT.of upd_same, rfl, _, _, rfl, _, _, rfl, r, _, rfl, hbT, rfl, _, _, rfl, _, _, rfl, _, _, rfl, rfl, rfl, ?_⟩
      refine ⟨_, rfl, _, rfl, t, bs, i, rfl, hB.same s2, (List.getElem?_eq_some_iff.mp hb).1, ?_⟩
      refine ⟨_, rfl, b.2.2, 0, rfl, rfl, _, rfl, ite2 (fun c => ?_) (fun _ => ?_)⟩
      · have neg : b.2.2 < 0 := of_decide_eq_true c
        cases hc : bs[i + 1]? with
        | none =>
          have := g.last i b hb hc
          omega
        | some c' =>
          have pos := g.ends i b c' hb hc neg
          have e : lastOf bs i = some (c'.1 - 1) := by
            unfold lastOf
            rw [hc]
            rfl
          rw [e]
          refine ⟨_, rfl, rfl, _, rfl, ite2 (fun k => ?_) (fun _ => ?_)⟩
          · have k2 := of_decide_eq_true k
            cases k2
          · have st := g.step b hm
            refine ⟨_, rfl, _, rfl, _, rfl, _, rfl, _, _, rfl, rfl, b.2.2, _, rfl, rfl, .inl ⟨by omega, by omega⟩, b.2.1, _, rfl, rfl, _, 0, rfl, rfl, _, rfl, ite2 (fun k => ?_) (fun _ => ?_)⟩
            · have k2 : b.2.1 + b.2.2 * (c'.1 - 1 - b.1) < 0 := of_decide_eq_true k
              unfold left1 at pos
              omega
            · exact ⟨_, _, _, _, _, rfl, s2⟩
      · exact ⟨_, _, _, _, _, rfl, s2⟩
    · rintro σ H1 ⟨x1, x2, x3, x4, x5, rfl, s1⟩
      exact q H1 s1
end

section
variable {P : Program} {w : World} {K : PySem.W.Frag} {mg : Str → Option Value} {base : Heap} {C CP : Addr}
theorem ok_left_by {f : Addr} {fd : FuncData} (F : Fun K "left_by" "left_by" s_left_by f fd) (T : Txt K mg C CP) : FnOk P w K mg base CX0 1 f fd ["bands", "income"] spLeftBy := by
  refine F.ok sc_left_by (fun vs H Q E h => ?_) (fun cdv A outer s H vs Q E hr h => ?_)
  · obtain ⟨t, bs, x, rfl, _⟩ := h
    rfl
  · obtain ⟨t, bs, x, rfl, hB, g, x0, q⟩ := h
    obtain ⟨rs, h1, h2, h3⟩ := hB.sq (K := K)
    refine ⟨_, (pss_cons (ps_asg (pe_ix ix_list (pe_lc (own := [("band", 5)]) (g := gName 5)  rfl sc_left_by.nd (pi_tup (pv 0)) (blkOk_by (N := ["bands", "income", "start", "value", "step", "band"]) (sc := defScope s_left_by) (by decide +kernel)) (fun _ _ _ _ _ => pg_name (i := 5) sc_left_by.nd rfl (Or.inl rfl)) (fun _ _ _ _ _ => pts_one (pt_cmpR op_le (pe_ix (ix_tupK (K := K) rfl) (pv 5) pe_int (fun _ _ => rfl)) (pv 1) (nomark _))) (fun _ _ _ _ _ => (pv 5))) (pe_un un_neg pe_int) (fun _ _ => rfl)) (pg_tup (by rfl) (pgs_cons (pg_name (i := 2) sc_left_by.nd rfl (Or.inl rfl)) (pgs_cons (pg_name (i := 3) sc_left_by.nd rfl (Or.inl rfl)) (pgs_cons (pg_name (i := 4) sc_left_by.nd rfl (Or.inl rfl)) pgs_nil)))))
  (pss_one (ps_ret (pe_op op_add (pv 3) (pe_op op_mul (pv 4) (pe_op op_sub (pv 1) (pv 2))))))), ?_⟩
    refine ⟨_, rfl, t, rfl, ⟨_, h1⟩, fun D hD => lc_tup (xs := rs.map V.ref) (fun i H' => Same H H' ∧ H' D = some (.lst ((((rs.zip bs).take i).filter fun p => decide (p.2.1 ≤ x)).map fun p => V.ref p.1)))
      ⟨same_new hD, upd_same⟩ (fun i H' _ ⟨s1, _⟩ => same_t s1 h1) ?_ ?_⟩
    · rintro i v H1 hi ⟨s1, hd⟩
      obtain ⟨r, b, rfl, hr', hb⟩ := band_at h2 hi
      have hz : (rs.zip bs)[i]? = some (r, b) := by
        rw [List.getElem?_zip_eq_some]
        exact ⟨hr', hb⟩
      have hbT := same_t s1 (h3 i r b hr' hb)
      refine ⟨rfl, _, rfl, r, _, 0, _, rfl, rfl, hbT, at0, _, rfl, b.1, x, rfl, rfl, _, rfl, ite2 (fun c => ?_) (fun c => ?_)⟩
      · refine ⟨_, rfl, _, hd, ?_, fun c' o e => ?_, ?_⟩
        · rw [List.length_map]
          refine Nat.lt_of_le_of_lt (List.length_filter_le _ _) (Nat.lt_of_le_of_lt (m := (rs.zip bs).length) (by rw [List.length_take]; exact Nat.min_le_right _ _) ?_)
          have := g.len8
          rw [sizeLine_eq, List.length_zip]
          omega
        · rw [upd_ne (ne_of_none e hD)]
          exact s1 _ _ e
        · rw [upd_same, List.take_add_one, hz, List.filter_append, List.map_append]
          have c2 : decide (b.1 ≤ x) = true := c
          simp [c2]
      · refine ⟨s1, ?_⟩
        rw [List.take_add_one, hz, List.filter_append]
        have c2 : decide (b.1 ≤ x) = false := by
          cases e : decide (b.1 ≤ x) with
          | false => rfl
          | true => exact absurd e c
        simp only [Option.toList_some, List.filter_cons, c2, List.filter_nil, Bool.false_eq_true, if_false, List.append_nil]
        exact hd
    · rintro H1 ⟨s1, hd⟩
      rw [List.length_map, List.take_of_length_le (by rw [List.length_zip]; omega)] at hd
      have hne : ((rs.zip bs).filter fun p => decide (p.2.1 ≤ x)) ≠ [] := by
        have hl := g.len1
        have hb0 : bs[0]? = some (bs[0]'(by omega)) := List.getElem?_eq_getElem _
        have hr0 : rs[0]? = some (rs[0]'(by omega)) := List.getElem?_eq_getElem _
        have z0 : (rs.zip bs)[0]? = some (rs[0]'(by omega), bs[0]'(by omega)) := by
          rw [List.getElem?_zip_eq_some]
          exact ⟨hr0, hb0⟩
        have e0 := g.first _ hb0
        intro z
        have m : (rs[0]'(by omega), bs[0]'(by omega)) ∈ (rs.zip bs).filter fun p => decide (p.2.1 ≤ x) := List.mem_filter.mpr ⟨List.mem_of_getElem? z0, by simp [e0, x0]⟩
        rw [z] at m
        cases m
      obtain ⟨p, hp⟩ : ∃ p, ((rs.zip bs).filter fun p => decide (p.2.1 ≤ x)).getLast? = some p := ⟨_, List.getLast?_eq_getLast hne⟩
      have mp : p ∈ rs.zip bs := (List.mem_filter.mp (List.mem_of_getLast? hp)).1
      obtain ⟨i, hi1, hi2⟩ := zip_get mp
      have hT := same_t s1 (h3 i p.1 p.2 hi1 hi2)
      have hb : (bs.filter fun b => decide (b.1 ≤ x)).getLast? = some p.2 := by
        have e : bs.filter (fun b => decide (b.1 ≤ x)) = ((rs.zip bs).filter fun p => decide (p.2.1 ≤ x)).map Prod.snd := by
          rw [← zip_snd h2, List.filter_map, zip_snd h2]
          rfl
        rw [e, List.getLast?_map, hp]
        rfl
      have hl : leftOf bs x = left1 p.2 x := by
        unfold leftOf
        rw [hb]
      have gl : ((((rs.zip bs).filter fun p => decide (p.2.1 ≤ x)).map fun p => V.ref p.1)).getLast? = some (V.ref p.1) := by
        rw [List.getLast?_map, hp]
        rfl
      have st := g.step _ (List.mem_of_getElem? hi2)
      refine ⟨1, rfl, D, _, _, _, rfl, rfl, SqL.of hd, atLast gl, p.1, _, rfl, hT, rfl, _, _, rfl, _, _, rfl, _, _, rfl, rfl, ?_⟩
      refine ⟨_, rfl, _, rfl, _, rfl, _, rfl, _, _, rfl, rfl, p.2.2.2, _, rfl, rfl, .inl ⟨by omega, by omega⟩, _, _, rfl, rfl, ?_⟩
      have := q _ s1
      rw [hl] at this
      exact this
end

section
variable {P : Program} {w : World} {K : PySem.W.Frag} {mg : Str → Option Value} {base : Heap} {C CP : Addr}
theorem ok_Rule_init {f : Addr} {fd : FuncData} (F : Fun K "__init__" "Rule.__init__" s_Rule___init__ f fd) (T : Txt K mg C CP) (d_first_wrong_rules : Def P w K mg base "first_wrong_rules" ["bands"] 5 spNoneOf) (d_first_below : Def P w K mg base "first_below" ["bands"] 2 spNoneOf) :
    FnOk P w K mg base CX0 6 f fd ["self", "bands"] (spInit C) := by
  refine F.ok sc_Rule___init__ (fun vs H Q E h => ?_) (fun cdv A outer s H vs Q E hr h => ?_)
  · obtain ⟨r, dx, t, bs, rfl, _⟩ := h
    rfl
  · obtain ⟨r, dx, t, bs, rfl, h1, hB, g, q⟩ := h
    obtain ⟨rs, a1, a2, a3⟩ := hB.sq (K := K)
    refine ⟨_, (pss_cons (ps_if (PW.pt (pw_or (pt_not (pt_val (pe_callB call_isi (by rfl) T.b_isinstance (by decide +kernel) (pa_cons (pv 1) (pa_cons (pe_bltn (v := .ty "tuple") (by rfl) T.b_tuple (by decide +kernel) rfl) pa_nil))))) (pw_or1 (pt_cmpR op_eq (pe_callB call_len_seq (by rfl) T.b_len (by decide +kernel) (pa_cons (pv 1) pa_nil)) pe_int (nomark _)))))
    (pss_one ps_never)
    pss_nil)
  (pss_cons (ps_set (i := 2) sc_Rule___init__.nd rfl (Or.inl rfl) (pe_def d_first_wrong_rules (hr.mono (by decide)) (by rfl) (pa_cons (pv 1) pa_nil)))
  (pss_cons (ps_if (pt_cmpR op_isN (pv 2) pe_non (nomark _))
    (pss_one (ps_set (i := 2) sc_Rule___init__.nd rfl (Or.inl rfl) (pe_def d_first_below (hr.mono (by decide)) (by rfl) (pa_cons (pv 1) pa_nil))))
    pss_nil)
  (pss_cons (ps_if (pt_cmpR op_notN (pv 2) pe_non (nomark _))
    (pss_one ps_never)
    pss_nil)
  (pss_one (ps_fld (pv 0) (pv 1) rfl)))))), ?_⟩
    refine ⟨_, rfl, _, _, _, _, true, rfl, .ty _, tyT a1, kit_tup, _, rfl, iteF ⟨_, rfl, t, _, rfl, .inr a1, rfl, _, rfl, ite2 (fun c => ?_) (fun _ => ?_)⟩⟩
    · exfalso
      have e : (((rs.map V.ref).length : Nat) : Int) = 0 := V.int.inj (of_decide_eq_true c)
      rw [List.length_map] at e
      have := g.len1
      omega
    · refine ⟨_, rfl, t, bs, rfl, hB, g, fun H1 s1 => ⟨_, rfl, rfl, _, rfl, iteT ⟨_, rfl, t, bs, rfl, hB.same s1, g, fun H2 s2 => ⟨_, rfl, rfl, _, rfl, iteF ?_⟩⟩⟩⟩
      have s3 := s1.trans s2
      refine ⟨_, rfl, _, rfl, r, C, dx, [], rfl, s3 _ _ h1, T.cl, T.nb, (by show 0 < 1000; decide), ?_⟩
      exact q _ ((Fx.of_same s3).trans Fx.put) upd_same
theorem ok_Rule_bands {f : Addr} {fd : FuncData} (F : Fun K "bands" "Rule.bands" s_Rule_bands f fd) (T : Txt K mg C CP) : FnOk P w K mg base CX0 1 f fd ["self"] (getSp C "_bands") := by
  refine F.ok sc_Rule_bands (fun vs H Q E h => ?_) (fun cdv A outer s H vs Q E hr h => ?_)
  · obtain ⟨a, dx, fs, v, rfl, _⟩ := h
    rfl
  · obtain ⟨a, dx, fs, v, rfl, ea, l, q⟩ := h
    exact ⟨_, (pss_one (ps_ret (pe_fld (pv 0) rfl))), ⟨_, rfl, a, C, dx, fs, v, rfl, ea, T.cl, T.nb, l, q⟩⟩
end

abbrev s_Rule___len__ : Stmt := inClass (top 25) 4
theorem sc_Rule___len__ : FnScope ["self"] ["self"] (defScope s_Rule___len__) := ⟨rfl, rfl, rfl, by decide +kernel, rfl, by decide +kernel, by decide +kernel⟩
abbrev s_Rule___eq__ : Stmt := inClass (top 25) 6
theorem sc_Rule___eq__ : FnScope ["self", "other"] ["self", "other"] (defScope s_Rule___eq__) := ⟨rfl, rfl, rfl, by decide +kernel, rfl, by decide +kernel, by decide +kernel⟩
abbrev s_Rule_read : Stmt := inClass (top 25) 1
theorem sc_Rule_read : FnScope ["cls", "text", "bands"] ["cls", "text"] (defScope s_Rule_read) := ⟨rfl, rfl, rfl, by decide +kernel, rfl, by decide +kernel, by decide +kernel⟩
/-- the lines of the text of bands, and the bands with a text -/
def spLinesOf : Sp := fun vs H Q _ => ∃ (t : Addr) (bs : List Band), vs = [.ref t] ∧ BandsAt H t bs ∧ Good bs ∧ ∀ D H', Same H H' → H' D = some (.lst ((bs.map lineOf).map V.str)) → Q (.ref D) H'
def spBandsWith : Sp := fun vs H Q _ => ∃ bs : List Band, vs = [.str (pageOf bs)] ∧ Good bs ∧ ∀ t H', Same H H' → BandsAt H' t bs → Q (.ref t) H'
section
variable {P : Program} {w : World} {K : PySem.W.Frag} {mg : Str → Option Value} {base : Heap} {C CP : Addr}
theorem ok_read_integer {f : Addr} {fd : FuncData} (F : Fun K "read_integer" "read_integer" s_read_integer f fd) (T : Txt K mg C CP) : FnOk P w K mg base CX0 1 f fd ["word"] spReadInt := by
  refine F.ok sc_read_integer (fun vs H Q E h => ?_) (fun cdv A outer s H vs Q E hr h => ?_)
  · obtain ⟨i, rfl, _⟩ := h
    rfl
  · obtain ⟨i, rfl, hi, q⟩ := h
    refine ⟨_, (pss_cons (ps_set (i := 1) sc_read_integer.nd rfl (Or.inl rfl) (pe_m1 PySem.F.slot_str_removeprefix PySem.F.type_str_removeprefix mt_removeprefix (pv 0) pe_str))
  (pss_cons (ps_if (PW.pt (pw_or (pt_cmpR op_gt (pe_callB call_len_str (by rfl) T.b_len PySem.boot_len (pa_cons (pv 1) pa_nil)) (pe_globI (by rfl) T.c_MOST_DIGITS) (nomark _)) (pw_or (pt_not (pt_val (pe_m0 PySem.F.slot_str_isascii PySem.F.type_str_isascii mt_isascii (pv 1)))) (pw_or1 (pt_not (pt_val (pe_m0 PySem.F.slot_str_isdigit PySem.F.type_str_isdigit mt_isdigit (pv 1))))))))
    (pss_one (ps_ret pe_non))
    pss_nil)
  (pss_one (ps_ret (pe_callTy call_int_str (by rfl) T.b_int (by decide +kernel) (pa_cons (pv 0) pa_nil)))))), ?_⟩
    have hl := nI_len (k := 40) (by decide) hi
    have hl2 := nI_len (i := (i.natAbs : Int)) (k := 40) (by decide) (by rw [Int.natAbs_natCast]; exact hi)
    have hz : (nI i).length ≤ sizeLine := by rw [sizeLine_eq]; omega
    refine ⟨_, rfl, ⟨_, rfl⟩, _, _, rfl, rfl, hz, ?_⟩
    rw [show Txt.removeprefix (nI i) (Str.ofString "-") = nI i.natAbs from nI_pre i]
    refine ⟨_, rfl, _, rfl, (by rw [sizeLine_eq]; omega), _, _, rfl, rfl, _, rfl, ite2 (fun c => ?_) (fun _ => ?_)⟩
    · exfalso
      have c2 : ((nI i.natAbs).length : Int) > 80 := of_decide_eq_true c
      omega
    refine ⟨_, rfl, ⟨_, rfl⟩, _, rfl, rfl, trivial, _, rfl, ?_⟩
    rw [nI_ascii]
    refine iteF ⟨_, rfl, ⟨_, rfl⟩, _, rfl, rfl, trivial, _, rfl, ?_⟩
    rw [nI_digit]
    refine iteF ⟨_, rfl, _, i, rfl, nI_int hi, by omega, q⟩
theorem ok_band_of {f : Addr} {fd : FuncData} (F : Fun K "band_of" "band_of" s_band_of f fd) (T : Txt K mg C CP) (d_read_integer : Def P w K mg base "read_integer" ["word"] 1 spReadInt) : FnOk P w K mg base CX0 2 f fd ["line"] spBandOf := by
  refine F.ok sc_band_of (fun vs H Q E h => ?_) (fun cdv A outer s H vs Q E hr h => ?_)
  · obtain ⟨b, rfl, _⟩ := h
    rfl
  · obtain ⟨b, rfl, hb, q⟩ := h
    refine ⟨_, (pss_cons (ps_set (i := 1) sc_band_of.nd rfl (Or.inl rfl) (pe_split (pv 0) pe_str))
  (pss_cons (ps_if (pt_cmpR op_ne (pe_callB call_len_seq (by rfl) T.b_len (by decide +kernel) (pa_cons (pv 1) pa_nil)) pe_int (nomark _))
    (pss_one (ps_ret pe_non))
    pss_nil)
  (pss_one (ps_ret (pe_tup (pa_cons (pe_def d_read_integer (hr.mono (by decide)) (by rfl) (pa_cons (pe_ix ix_list (pv 1) pe_int (fun _ _ => rfl)) pa_nil)) (pa_cons (pe_def d_read_integer (hr.mono (by decide)) (by rfl) (pa_cons (pe_ix ix_list (pv 1) pe_int (fun _ _ => rfl)) pa_nil)) (pa_cons (pe_def d_read_integer (hr.mono (by decide)) (by rfl) (pa_cons (pe_ix ix_list (pv 1) pe_int (fun _ _ => rfl)) pa_nil)) pa_nil)))))))), ?_⟩
    have hl := line_len hb
    have hz : (lineOf b).length + 2 ≤ sizeLine := by rw [sizeLine_eq]; omega
    refine ⟨_, rfl, ⟨_, rfl⟩, _, _, rfl, rfl, rfl, hz, fun p hp => ?_⟩
    rw [show Txt.split (lineOf b) (Str.ofString " ") = _ from line_split b]
    refine ⟨_, rfl, p, _, rfl, .inl (SqL.of upd_same), rfl, _, rfl, ite2 (fun k => absurd k (by simp)) (fun _ => ?_)⟩
    refine ⟨_, rfl, p, _, _, _, rfl, rfl, SqL.of upd_same, rfl, b.1, rfl, hb.1, _, rfl, p, _, _, _, rfl, rfl, SqL.of upd_same, rfl, b.2.1, rfl, hb.2.1, _, rfl, p, _, _, _, rfl, rfl, SqL.of upd_same, rfl, b.2.2, rfl, hb.2.2, (by show 3 ≤ sizeLine; decide), fun r hr => ?_⟩
    refine q r _ ?_ ((same_new hp).trans (same_new hr)) upd_same
    cases e : H r with
    | none => rfl
    | some o =>
      have z : (none : Option HO) = some o := hr.symm.trans (same_new hp _ _ e)
      cases z
theorem ok_lines_of {f : Addr} {fd : FuncData} (F : Fun K "lines_of" "lines_of" s_lines_of_rules f fd) (T : Txt K mg C CP) : FnOk P w K mg base CX0 1 f fd ["bands"] spLinesOf := by
  refine F.ok sc_lines_of_rules (fun vs H Q E h => ?_) (fun cdv A outer s H vs Q E hr h => ?_)
  · obtain ⟨t, bs, rfl, _⟩ := h
    rfl
  · obtain ⟨t, bs, rfl, hB, g, q⟩ := h
    refine ⟨_, (pss_one (ps_ret (pe_lc (own := [("start", 1), ("value", 2), ("step", 3)]) (g := (gTup K 3 (gCons (gName 1) (gCons (gName 2) (gCons (gName 3) gNil))))) (tt := tYes) rfl sc_lines_of_rules.nd (pi_tup (pv 0)) (blkOk_by (N := ["bands", "start", "value", "step"]) (sc := defScope s_lines_of_rules) (by decide +kernel)) (fun _ _ _ _ _ => (pg_tup (by rfl) (pgs_cons (pg_name (i := 1) sc_lines_of_rules.nd rfl (Or.inl rfl)) (pgs_cons (pg_name (i := 2) sc_lines_of_rules.nd rfl (Or.inl rfl)) (pgs_cons (pg_name (i := 3) sc_lines_of_rules.nd rfl (Or.inl rfl)) pgs_nil))))) (fun _ _ _ _ _ => pts_nil) (fun _ _ _ _ _ => (pe_fs (PJ.cons pe_str (PJ.cons (pe_fmt (pv 1)) (PJ.cons pe_str (PJ.cons (pe_fmt (pv 2)) (PJ.cons pe_str (PJ.cons (pe_fmt (pv 3)) PJ.nil))))))))))), ?_⟩
    obtain ⟨rs, e1, e2, e3⟩ := id hB
    refine ⟨_, rfl, t, rfl, ⟨_, SqT.of e1⟩, fun D hD => lc_tup (K := K) (g := gTup K 3 (gCons (gName 1) (gCons (gName 2) (gCons (gName 3) gNil)))) (tt := tYes) (xs := rs.map V.ref) (fun i H' => Same H H' ∧ H' D = some (.lst (((bs.take i).map lineOf).map V.str))) ⟨same_new hD, upd_same⟩ (fun i H' _ ⟨s1, _⟩ => same_t s1 (SqT.of e1)) ?_ ?_⟩
    · rintro i v H1 hi ⟨s1, hd⟩
      obtain ⟨r', b, rfl, hr', hb⟩ := band_at e2 hi
      have hm := List.mem_of_getElem? hb
      have sh := g.short hm
      have hT := SqT.of (s1 _ _ (e3 i r' b hr' hb)) (K := K)
      have ll := line_len sh
      have n1 : (Str.ofString (toString b.1)).length ≤ 41 := nI_len (k := 40) (by decide) sh.1
      have n2 : (Str.ofString (toString b.2.1)).length ≤ 41 := nI_len (k := 40) (by decide) sh.2.1
      have n3 : (Str.ofString (toString b.2.2)).length ≤ 41 := nI_len (k := 40) (by decide) sh.2.2
      have la : Str.empty.length = 0 := rfl
      refine ⟨r', _, rfl, hT, rfl, _, _, rfl, _, _, rfl, _, _, rfl, rfl, rfl, ?_⟩
      refine ⟨_, rfl, (by rw [sizeLine_eq]; simp only [len_app, la, lit_from]; omega), ?_⟩
      refine ⟨_, rfl, .inr ⟨_, rfl, log_short sh.1, _, rfl, (by rw [sizeLine_eq]; simp only [len_app, la, lit_from]; omega), ?_⟩⟩
      refine ⟨_, rfl, (by rw [sizeLine_eq]; simp only [len_app, la, lit_from, lit_value]; omega), ?_⟩
      refine ⟨_, rfl, .inr ⟨_, rfl, log_short sh.2.1, _, rfl, (by rw [sizeLine_eq]; simp only [len_app, la, lit_from, lit_value]; omega), ?_⟩⟩
      refine ⟨_, rfl, (by rw [sizeLine_eq]; simp only [len_app, la, lit_from, lit_value, lit_step]; omega), ?_⟩
      refine ⟨_, rfl, .inr ⟨_, rfl, log_short sh.2.2, _, rfl, (by rw [sizeLine_eq]; simp only [len_app, la, lit_from, lit_value, lit_step]; omega), ?_⟩⟩
      refine ⟨_, hd, ?_, fun c o e => ?_, ?_⟩
      · rw [List.length_map, List.length_map, List.length_take, sizeLine_eq]
        have := g.len8
        omega
      · rw [upd_ne (ne_of_none e hD)]
        exact s1 _ _ e
      · rw [upd_same, List.take_add_one, hb, List.map_append, List.map_append]
        exact congrArg (fun z => some (HO.lst (_ ++ [V.str z]))) (line_fmt b)
    · rintro H1 ⟨s1, hd⟩
      rw [List.length_map, e2, List.take_length] at hd
      exact q D _ s1 hd
theorem ok_Rule_str {f : Addr} {fd : FuncData} (F : Fun K "__str__" "Rule.__str__" s_Rule___str__ f fd) (T : Txt K mg C CP) (d_lines_of_rules : Def P w K mg base "lines_of_rules" ["bands"] 1 spLinesOf) : FnOk P w K mg base CX0 2 f fd ["self"] (spStr C) := by
  refine F.ok sc_Rule___str__ (fun vs H Q E h => ?_) (fun cdv A outer s H vs Q E hr h => ?_)
  · obtain ⟨r, bs, rfl, _⟩ := h
    rfl
  · obtain ⟨r, bs, rfl, ⟨dx, t, h1, hB, g⟩, q⟩ := h
    refine ⟨_, (pss_one (ps_ret (pe_join pe_str (pe_def d_lines_of_rules (hr.mono (by decide)) (by rfl) (pa_cons (pe_fld (pv 0) rfl) pa_nil))))), ?_⟩
    have pl := g.page_len
    exact ⟨⟨_, rfl⟩, _, rfl, r, C, dx, _, _, rfl, h1, T.cl, T.nb, rfl, t, bs, rfl, hB, g, fun D H1 s1 hd => ⟨_, D, _, rfl, rfl, .inl (SqL.of hd), Nat.le_trans g.lines_len (by decide), q H1 s1⟩⟩
theorem ok_bands_with {f : Addr} {fd : FuncData} (F : Fun K "bands_with" "bands_with" s_bands_with f fd) (T : Txt K mg C CP) (d_first_wrong_rules : Def P w K mg base "first_wrong_rules" ["bands"] 5 spNoneOf) (d_first_below : Def P w K mg base "first_below" ["bands"] 2 spNoneOf) (d_lines_of_rules : Def P w K mg base "lines_of_rules" ["bands"] 1 spLinesOf)
    (d_band_of : Def P w K mg base "band_of" ["line"] 2 spBandOf) : FnOk P w K mg base CX0 6 f fd ["text"] spBandsWith := by
  refine F.ok sc_bands_with (fun vs H Q E h => ?_) (fun cdv A outer s H vs Q E hr h => ?_)
  · obtain ⟨bs, rfl, _⟩ := h
    rfl
  · obtain ⟨bs, rfl, g, q⟩ := h
    refine ⟨_, (pss_cons (ps_set (i := 1) sc_bands_with.nd rfl (Or.inl rfl) (pe_split (pv 0) pe_str))
  (pss_cons (ps_set (i := 2) sc_bands_with.nd rfl (Or.inl rfl) (pe_callTy call_tuple_of (by rfl) T.b_tuple (by decide +kernel) (pa_cons (pe_lc (own := [("line", 3)]) (g := gName 3) (tt := tYes) rfl sc_bands_with.nd (pi_list (pv 1)) (blkOk_by (N := ["text", "lines", "bands", "line"]) (sc := defScope s_bands_with) (by decide +kernel)) (fun _ _ _ _ _ => pg_name (i := 3) sc_bands_with.nd rfl (Or.inl rfl)) (fun _ _ _ _ _ => pts_nil) (fun _ _ _ _ _ => (pe_def d_band_of (hr.mono (by decide)) (by rfl) (pa_cons (pv 3) pa_nil)))) pa_nil)))
  (pss_cons (ps_if (PW.pt (pw_or (pt_cmpR op_notN (pe_def d_first_wrong_rules (hr.mono (by decide)) (by rfl) (pa_cons (pv 2) pa_nil)) pe_non (nomark _)) (pw_or1 (pt_cmpR op_notN (pe_def d_first_below (hr.mono (by decide)) (by rfl) (pa_cons (pv 2) pa_nil)) pe_non (nomark _)))))
    (pss_one (ps_ret pe_non))
    pss_nil)
  (pss_cons (ps_if (pt_cmpR (op_neD hr.units) (pe_def d_lines_of_rules (hr.mono (by decide)) (by rfl) (pa_cons (pv 2) pa_nil)) (pv 1) (nomark _))
    (pss_one (ps_ret pe_non))
    pss_nil)
  (pss_one (ps_ret (pv 2))))))), ?_⟩
    have ne : bs ≠ [] := fun z => by have := g.len1; rw [z] at this; simp at this
    have pl := g.page_len
    refine ⟨_, rfl, ⟨_, rfl⟩, _, _, rfl, rfl, rfl, by rw [sizeLine_eq]; omega, fun p hp => ?_⟩
    rw [show Txt.split (pageOf bs) (Str.ofString "\n") = bs.map lineOf from page_split ne]
    have s0 := same_new (o := .lst ((bs.map lineOf).map V.str)) hp
    refine ⟨_, rfl, p, rfl, ⟨_, SqL.of upd_same⟩, fun D hD => lc_list (K := K) (xs := (bs.map lineOf).map V.str) (fun i H' => ∃ rs : List Addr, rs.length = i ∧ Same (upd H p (.lst ((bs.map lineOf).map V.str))) H' ∧ H' D = some (.lst (rs.map V.ref)) ∧ ∀ (j : Nat) r b, rs[j]? = some r → bs[j]? = some b → H' r = some (.tup (bandT b)))
      ⟨[], rfl, same_new hD, upd_same, fun j r b h => by cases h⟩ (fun i H' _ ⟨rs, _, s1, _⟩ => SqL.of (s1 _ _ upd_same)) ?_ ?_⟩
    · rintro i v H1 hi ⟨rs, lr, s1, hd, ht⟩
      rw [List.getElem?_map, List.getElem?_map] at hi
      cases hb : bs[i]? with
      | none => rw [hb] at hi; cases hi
      | some b =>
        rw [hb] at hi
        cases hi
        have il := (List.getElem?_eq_some_iff.mp hb).1
        have l8 := g.len8
        refine ⟨rfl, _, rfl, b, rfl, g.short (List.mem_of_getElem? hb), fun r H2 hr s2 hr2 => ⟨_, s2 _ _ hd, ?_, rs ++ [r], ?_, fun c o e => ?_, ?_, fun j r' b' h1 h2 => ?_⟩⟩
        · rw [List.length_map, sizeLine_eq]
          omega
        · rw [List.length_append, lr]
          rfl
        · rw [upd_ne (ne_of_none e hD)]
          exact s2 _ _ (s1 _ _ e)
        · rw [upd_same, List.map_append]
          rfl
        · rcases snoc_get h1 with ⟨lj, h1⟩ | ⟨ej, rfl⟩
          · have h3 := s2 _ _ (ht j r' b' h1 h2)
            rw [upd_ne (ne_of h3 (s2 _ _ hd) (by intro z; cases z))]
            exact h3
          · rw [lr] at ej
            subst ej
            rw [hb] at h2
            cases h2
            rw [upd_ne (ne_of hr2 (s2 _ _ hd) (by intro z; cases z))]
            exact hr2
    · rintro H1 ⟨rs, lr, s1, hd, ht⟩
      rw [List.length_map, List.length_map] at lr
      refine ⟨D, _, rfl, .inl ⟨SqL.of hd, fun t ht' => ?_⟩⟩
      have s2' := same_new (o := .tup (rs.map V.ref)) ht'
      have sA := (s0.trans s1).trans s2'
      have hB : BandsAt (upd H1 t (.tup (rs.map V.ref))) t bs := ⟨rs, upd_same, lr, fun j r b h1 h2 => same_new ht' _ _ (ht j r b h1 h2)⟩
      generalize (upd H1 t (.tup (rs.map V.ref))) = H2 at s2' sA hB ⊢
      refine ⟨_, rfl, t, bs, rfl, hB, g, fun H3 s3 => ⟨rfl, _, rfl, iteF ⟨_, rfl, t, bs, rfl, hB.same s3, g, fun H4 s4 => ⟨rfl, _, rfl, iteF ?_⟩⟩⟩⟩
      have s34 := s3.trans s4
      refine ⟨_, rfl, t, bs, rfl, hB.same s34, g, fun D5 H5 s5 hD5 => ⟨_, rfl, strsD (bs.map lineOf), strsD (bs.map lineOf), dp_strs (SqL.of hD5), dp_strs (SqL.of ((((s1.trans s2').trans s34).trans s5) _ _ upd_same)), shaped_strs (lines_lt bs), shaped_strs (lines_lt bs), _, rfl, ?_⟩⟩
      rw [eqv_strs]
      refine iteF ?_
      exact ⟨_, rfl, q t _ (sA.trans (s34.trans s5)) (hB.same (s34.trans s5))⟩
end

section
variable {P : Program} {w : World} {K : PySem.W.Frag} {mg : Str → Option Value} {base : Heap} {C CP : Addr}
theorem good_plain : Good [(0, 0, 100)] where
  len1 := by decide
  len8 := by decide
  first := fun b h => by cases h; rfl
  rises := fun i b c h h' => by cases h'
  start := fun b h => by rw [List.mem_singleton.mp h]; decide
  value := fun b h => by rw [List.mem_singleton.mp h]; decide
  step := fun b h => by rw [List.mem_singleton.mp h]; decide
  ends := fun i b c h h' => by cases h'
  last := fun i b h _ => by
    rw [List.mem_singleton.mp (List.mem_of_getElem? h)]
    decide
theorem ok_plain {f : Addr} {fd : FuncData} (F : Fun K "plain" "plain" s_plain f fd) (T : Txt K mg C CP) (d_Rule_init : IDef P w K mg base C ["self", "bands"] 6 (spInit C)) : FnOk P w K mg base CX0 8 f fd [] (spPlain C) := by
  refine F.ok sc_plain (fun vs H Q E h => ?_) (fun cdv A outer s H vs Q E hr h => ?_)
  · obtain ⟨rfl, _⟩ := h
    rfl
  · obtain ⟨rfl, q⟩ := h
    refine ⟨_, (pss_one (ps_ret (pe_makeI d_Rule_init (hr.mono (by decide)) (by rfl) T.g_Rule (pa_cons (pe_tup (pa_cons (pe_tup (pa_cons pe_int (pa_cons pe_int (pa_cons pe_int pa_nil)))) pa_nil)) pa_nil) rule_made))), ?_⟩
    refine ⟨(by show 3 ≤ sizeLine; decide), fun b hb => ⟨(by show 1 ≤ sizeLine; decide), fun t ht => ?_⟩⟩
    obtain ⟨s1, hB⟩ := made1 (x := (0, 0, 100)) hb ht
    exact ⟨t, [(0, 0, 100)], rfl, hB, good_plain, fun r H1 hr s2 R => q r H1 (s1.free hr) (s1.trans s2) R⟩
end

/-! ### the program's defs of purses -/
section
variable {P : Program} {w : World} {K : PySem.W.Frag} {mg : Str → Option Value} {base : Heap} {C CP : Addr}
theorem ok_is_kind {f : Addr} {fd : FuncData} (F : Fun K "is_kind" "is_kind" s_is_kind f fd) (T : Txt K mg C CP) (d_is_within : Def P w K mg base "is_within" ["value", "least", "most"] 2 (spWithin K)) : FnOk P w K mg base CX0 3 f fd ["kind", "least"] (spIsKind K) := by
  refine F.ok sc_is_kind (fun vs H Q E h => ?_) (fun cdv A outer s H vs Q E hr h => ?_)
  · obtain ⟨r, b, lo, rfl, _⟩ := h
    rfl
  · obtain ⟨r, b, lo, rfl, hT, q⟩ := h
    refine ⟨_, (pss_cons (ps_if (PW.pt (pw_or (pt_not (pt_val (pe_callB call_isi (by rfl) T.b_isinstance (by decide +kernel) (pa_cons (pv 0) (pa_cons (pe_bltn (v := .ty "tuple") (by rfl) T.b_tuple (by decide +kernel) rfl) pa_nil))))) (pw_or1 (pt_cmpR op_ne (pe_callB call_len_seq (by rfl) T.b_len (by decide +kernel) (pa_cons (pv 0) pa_nil)) pe_int (nomark _)))))
    (pss_one (ps_ret pe_bl))
    pss_nil)
  (pss_cons (ps_asg (pv 0) (pg_tup (by rfl) (pgs_cons (pg_name (i := 2) sc_is_kind.nd rfl (Or.inl rfl)) (pgs_cons (pg_name (i := 3) sc_is_kind.nd rfl (Or.inl rfl)) pgs_nil))))
  (pss_one (ps_ret (pe_and (pe_def d_is_within (hr.mono (by decide)) (by rfl) (pa_cons (pv 2) (pa_cons (pv 1) (pa_cons (pe_globI (by rfl) T.c_MOST_AMOUNT) pa_nil)))) (pe_one (pe_def d_is_within (hr.mono (by decide)) (by rfl) (pa_cons (pv 3) (pa_cons pe_int (pa_cons (pe_globI (by rfl) T.c_MOST_COUNT) pa_nil)))))))))), ?_⟩
    refine ⟨_, rfl, _, _, _, _, true, rfl, .ty _, tyT hT, kit_tup, _, rfl, iteF ⟨_, rfl, r, _, rfl, .inr hT, rfl, _, rfl, iteF ?_⟩⟩
    refine ⟨_, rfl, r, _, rfl, hT, rfl, _, _, rfl, _, _, rfl, rfl, ?_⟩
    refine ⟨_, rfl, _, rfl, _, _, _, rfl, .inl ⟨b.1, rfl, _, rfl, ite2 (fun c => ?_) (fun c => ?_)⟩⟩
    · rw [c] at q
      exact ⟨_, rfl, _, _, _, rfl, .inl ⟨b.2, rfl, q⟩⟩
    · rw [(by simpa using c : decide (lo ≤ b.1 ∧ b.1 ≤ 10 ^ 36) = false)] at q
      exact q
theorem ok_first_wrongK {f : Addr} {fd : FuncData} (F : Fun K "first_wrong" "first_wrong" s_first_wrong_purses f fd) (T : Txt K mg C CP) (d_is_kind : Def P w K mg base "is_kind" ["kind", "least"] 3 (spIsKind K)) : FnOk P w K mg base CX0 4 f fd ["kinds"] spNoneK := by
  refine F.ok sc_first_wrong_purses (fun vs H Q E h => ?_) (fun cdv A outer s H vs Q E hr h => ?_)
  · obtain ⟨t, ks, rfl, _⟩ := h
    rfl
  · obtain ⟨t, ks, rfl, hB, g, q⟩ := h
    obtain ⟨rs, e1, e2, e3⟩ := id hB
    have h1 := SqT.of e1 (K := K)
    refine ⟨_, (pss_cons (ps_set (i := 1) sc_first_wrong_purses.nd rfl (Or.inl rfl) pe_int)
  (pss_cons (ps_for PassesOwn.never rfl (pi_enumT (by rfl) T.b_enumerate (pa_cons (pv 0) pa_nil)) (pg_tup (by rfl) (pgs_cons (pg_name (i := 2) sc_first_wrong_purses.nd rfl (Or.inl rfl)) (pgs_cons (pg_name (i := 3) sc_first_wrong_purses.nd rfl (Or.inl rfl)) pgs_nil)))
    (pss_cons (ps_if (PW.pt (pw_or (pt_cmpR op_eq (pv 2) (pe_globI (by rfl) T.c_MOST_KINDS) (nomark _)) (pw_or1 (pt_not (pt_val (pe_def d_is_kind (hr.mono (by decide)) (by rfl) (pa_cons (pv 3) (pa_cons (pv 1) pa_nil))))))))
    (pss_one (ps_ret (pv 2)))
    pss_nil)
  (pss_one (ps_set (i := 1) sc_first_wrong_purses.nd rfl (Or.inl rfl) (pe_op op_add (pe_ix ix_tup (pv 3) pe_int (fun _ _ => rfl)) pe_int)))))
  (pss_one (ps_ret pe_non)))), ?_⟩
    refine ⟨_, rfl, t, _, rfl, h1, for_it walk_enumT (fun i σ H' => ∃ (lo : Int) (x3 x4 : Option V), σ = [some (.ref t), some (.int lo), x3, x4] ∧ Same H H' ∧ ∀ b, ks[i]? = some b → lo ≤ b.1)
      ⟨0, none, none, rfl, Same.refl H, fun b hb => g.low b (List.mem_of_getElem? hb)⟩ (fun i σ H' _ ⟨_, _, _, _, s1, _⟩ => same_t s1 h1) ?_ ?_⟩
    · rintro i x σ H1 H2 hi ⟨lo, x3, x4, rfl, s1, hlo⟩ ⟨T0, y, rfl, hT0, rfl, hy⟩
      obtain ⟨r, b, rfl, hr', hb⟩ := row_at e2 hy
      have s2 : Same H (upd H1 T0 (.tup [.int (i : Nat), .ref r])) := s1.trans (same_new hT0)
      have hbT := SqT.of (s2 _ _ (e3 i r b hr' hb)) (K := K)
      have hm := List.mem_of_getElem? hb
      have b1 := hlo b hb
      have i8 : i < 30 := by
        have := g.len30
        rw [List.length_map] at hi
        omega
      refine ⟨T0, _, rfl, SqT.of upd_same, rfl, _, _, rfl, _, _, rfl, rfl, ?_⟩
      refine ⟨_, rfl, rfl, _, rfl, ite2 (fun c => ?_) (fun _ => ?_)⟩
      · have e : (i : Int) = 30 := V.int.inj (of_decide_eq_true c)
        omega
      · refine ⟨_, rfl, _, rfl, r, b, lo, rfl, hbT, _, rfl, ite2 (fun c => ?_) (fun _ => ?_)⟩
        · exfalso
          have v := g.cnt b hm
          have st := g.amt b hm
          have v2 : b.2 ≤ 10 ^ 36 * 10 ^ 36 := by omega
          revert c
          simp only [b1, st, v.1, v2, and_self, decide_true, Bool.and_self, Bool.not_true]
          intro c
          cases c
        · refine ⟨_, rfl, r, _, 0, _, rfl, rfl, hbT, at0, _, 1, rfl, rfl, ?_⟩
          refine ⟨b.1 + 1, _, _, rfl, s2, fun c hc => ?_⟩
          have := g.rises i b c hb hc
          omega
    · rintro σ H1 ⟨lo, x3, x4, rfl, s1, hlo⟩
      exact q H1 s1
theorem ok_Purse_init {f : Addr} {fd : FuncData} (F : Fun K "__init__" "Purse.__init__" s_Purse___init__ f fd) (T : Txt K mg C CP) (d_first_wrong_purses : Def P w K mg base "first_wrong_purses" ["kinds"] 4 spNoneK) :
    FnOk P w K mg base CX0 5 f fd ["self", "kinds"] (spInitK CP) := by
  refine F.ok sc_Purse___init__ (fun vs H Q E h => ?_) (fun cdv A outer s H vs Q E hr h => ?_)
  · obtain ⟨r, dx, t, ks, rfl, _⟩ := h
    rfl
  · obtain ⟨r, dx, t, ks, rfl, h1, hB, g, q⟩ := h
    obtain ⟨rs, e1, a2, a3⟩ := id hB
    have a1 := SqT.of e1 (K := K)
    refine ⟨_, (pss_cons (ps_if (PW.pt (pw_or (pt_not (pt_val (pe_callB call_isi (by rfl) T.b_isinstance (by decide +kernel) (pa_cons (pv 1) (pa_cons (pe_bltn (v := .ty "tuple") (by rfl) T.b_tuple (by decide +kernel) rfl) pa_nil))))) (pw_or1 (pt_cmpR op_eq (pe_callB call_len_seq (by rfl) T.b_len (by decide +kernel) (pa_cons (pv 1) pa_nil)) pe_int (nomark _)))))
    (pss_one ps_never)
    pss_nil)
  (pss_cons (ps_set (i := 2) sc_Purse___init__.nd rfl (Or.inl rfl) (pe_def d_first_wrong_purses (hr.mono (by decide)) (by rfl) (pa_cons (pv 1) pa_nil)))
  (pss_cons (ps_if (pt_cmpR op_notN (pv 2) pe_non (nomark _))
    (pss_one ps_never)
    pss_nil)
  (pss_one (ps_fld (pv 0) (pv 1) rfl))))), ?_⟩
    refine ⟨_, rfl, _, _, _, _, true, rfl, .ty _, tyT a1, kit_tup, _, rfl, iteF ⟨_, rfl, t, _, rfl, .inr a1, rfl, _, rfl, ite2 (fun c => ?_) (fun _ => ?_)⟩⟩
    · exfalso
      have e : (((rs.map V.ref).length : Nat) : Int) = 0 := V.int.inj (of_decide_eq_true c)
      rw [List.length_map] at e
      have := g.len1
      omega
    · refine ⟨_, rfl, t, ks, rfl, hB, g, fun H1 s1 => ⟨_, rfl, rfl, _, rfl, iteF ?_⟩⟩
      refine ⟨_, rfl, _, rfl, r, CP, dx, [], rfl, s1 _ _ h1, T.clP, T.nbP, (by show 0 < 1000; decide), ?_⟩
      exact q _ ((Fx.of_same s1).trans Fx.put) upd_same
theorem ok_Purse_kinds {f : Addr} {fd : FuncData} (F : Fun K "kinds" "Purse.kinds" s_Purse_kinds f fd) (T : Txt K mg C CP) : FnOk P w K mg base CX0 1 f fd ["self"] (getSp CP "_kinds") := by
  refine F.ok sc_Purse_kinds (fun vs H Q E h => ?_) (fun cdv A outer s H vs Q E hr h => ?_)
  · obtain ⟨a, dx, fs, v, rfl, _⟩ := h
    rfl
  · obtain ⟨a, dx, fs, v, rfl, ea, l, q⟩ := h
    exact ⟨_, (pss_one (ps_ret (pe_fld (pv 0) rfl))), ⟨_, rfl, a, CP, dx, fs, v, rfl, ea, T.clP, T.nbP, l, q⟩⟩
end

abbrev s_Purse___len__ : Stmt := inClass (top 42) 5
theorem sc_Purse___len__ : FnScope ["self"] ["self"] (defScope s_Purse___len__) := ⟨rfl, rfl, rfl, by decide +kernel, rfl, by decide +kernel, by decide +kernel⟩
abbrev s_Purse___eq__ : Stmt := inClass (top 42) 7
theorem sc_Purse___eq__ : FnScope ["self", "other"] ["self", "other"] (defScope s_Purse___eq__) := ⟨rfl, rfl, rfl, by decide +kernel, rfl, by decide +kernel, by decide +kernel⟩
/-- the lines of the text of kinds -/
def spLinesOfK : Sp := fun vs H Q _ => ∃ (t : Addr) (bs : List Kind), vs = [.ref t] ∧ KindsAt H t bs ∧ GoodK bs ∧ ∀ D H', Same H H' → H' D = some (.lst ((bs.map lineK).map V.str)) → Q (.ref D) H'
section
variable {P : Program} {w : World} {K : PySem.W.Frag} {mg : Str → Option Value} {base : Heap} {C CP : Addr}
theorem ok_lines_ofK {f : Addr} {fd : FuncData} (F : Fun K "lines_of" "lines_of" s_lines_of_purses f fd) (T : Txt K mg C CP) : FnOk P w K mg base CX0 1 f fd ["kinds"] spLinesOfK := by
  refine F.ok sc_lines_of_purses (fun vs H Q E h => ?_) (fun cdv A outer s H vs Q E hr h => ?_)
  · obtain ⟨t, bs, rfl, _⟩ := h
    rfl
  · obtain ⟨t, bs, rfl, hB, g, q⟩ := h
    refine ⟨_, (pss_one (ps_ret (pe_lc (own := [("amount", 1), ("count", 2)]) (g := (gTup K 2 (gCons (gName 1) (gCons (gName 2) gNil)))) (tt := tYes) rfl sc_lines_of_purses.nd (pi_tup (pv 0)) (blkOk_by (N := ["kinds", "amount", "count"]) (sc := defScope s_lines_of_purses) (by decide +kernel)) (fun _ _ _ _ _ => (pg_tup (by rfl) (pgs_cons (pg_name (i := 1) sc_lines_of_purses.nd rfl (Or.inl rfl)) (pgs_cons (pg_name (i := 2) sc_lines_of_purses.nd rfl (Or.inl rfl)) pgs_nil)))) (fun _ _ _ _ _ => pts_nil) (fun _ _ _ _ _ => (pe_fs (PJ.cons (pe_fmt (pv 2)) (PJ.cons pe_str (PJ.cons (pe_fmt (pv 1)) PJ.nil)))))))), ?_⟩
    obtain ⟨rs, e1, e2, e3⟩ := id hB
    refine ⟨_, rfl, t, rfl, ⟨_, SqT.of e1⟩, fun D hD => lc_tup (K := K) (g := gTup K 2 (gCons (gName 1) (gCons (gName 2) gNil))) (tt := tYes) (xs := rs.map V.ref) (fun i H' => Same H H' ∧ H' D = some (.lst (((bs.take i).map lineK).map V.str))) ⟨same_new hD, upd_same⟩ (fun i H' _ ⟨s1, _⟩ => same_t s1 (SqT.of e1)) ?_ ?_⟩
    · rintro i v H1 hi ⟨s1, hd⟩
      obtain ⟨r', b, rfl, hr', hb⟩ := row_at e2 hi
      have hm := List.mem_of_getElem? hb
      have sh := g.short hm
      have hT := SqT.of (s1 _ _ (e3 i r' b hr' hb)) (K := K)
      have n1 : (Str.ofString (toString b.1)).length ≤ 76 := nI_len (k := 75) (by decide) sh.1
      have n2 : (Str.ofString (toString b.2)).length ≤ 76 := nI_len (k := 75) (by decide) sh.2
      have la : Str.empty.length = 0 := rfl
      have g1 := log_shortK (Nat.lt_trans sh.1 (by decide))
      have g2 := log_shortK (Nat.lt_trans sh.2 (by decide))
      refine ⟨r', _, rfl, hT, rfl, _, _, rfl, _, _, rfl, rfl, rfl, ?_⟩
      refine ⟨_, rfl, .inr ⟨_, rfl, g2, _, rfl, (by rw [sizeLine_eq]; simp only [len_app, la]; omega), ?_⟩⟩
      refine ⟨_, rfl, (by rw [sizeLine_eq]; simp only [len_app, la, lit_of]; omega), ?_⟩
      refine ⟨_, rfl, .inr ⟨_, rfl, g1, _, rfl, (by rw [sizeLine_eq]; simp only [len_app, la, lit_of]; omega), ?_⟩⟩
      refine ⟨_, hd, ?_, fun c o e => ?_, ?_⟩
      · rw [List.length_map, List.length_map, List.length_take, sizeLine_eq]
        have := g.len30
        omega
      · rw [upd_ne (ne_of_none e hD)]
        exact s1 _ _ e
      · rw [upd_same, List.take_add_one, hb, List.map_append, List.map_append]
        exact congrArg (fun z => some (HO.lst (_ ++ [V.str z]))) (lineK_fmt b)
    · rintro H1 ⟨s1, hd⟩
      rw [List.length_map, e2, List.take_length] at hd
      exact q D _ s1 hd
theorem ok_Purse_str {f : Addr} {fd : FuncData} (F : Fun K "__str__" "Purse.__str__" s_Purse___str__ f fd) (T : Txt K mg C CP) (d_lines_of_purses : Def P w K mg base "lines_of_purses" ["kinds"] 1 spLinesOfK) : FnOk P w K mg base CX0 2 f fd ["self"] (spStrK CP) := by
  refine F.ok sc_Purse___str__ (fun vs H Q E h => ?_) (fun cdv A outer s H vs Q E hr h => ?_)
  · obtain ⟨r, bs, rfl, _⟩ := h
    rfl
  · obtain ⟨r, bs, rfl, ⟨dx, t, h1, hB, g⟩, q⟩ := h
    refine ⟨_, (pss_one (ps_ret (pe_join pe_str (pe_def d_lines_of_purses (hr.mono (by decide)) (by rfl) (pa_cons (pe_fld (pv 0) rfl) pa_nil))))), ?_⟩
    have pl := g.sheet_len
    exact ⟨⟨_, rfl⟩, _, rfl, r, CP, dx, _, _, rfl, h1, T.clP, T.nbP, rfl, t, bs, rfl, hB, g, fun D H1 s1 hd => ⟨_, D, _, rfl, rfl, .inl (SqL.of hd), Nat.le_trans g.lines_len (by decide), q H1 s1⟩⟩
end

abbrev s_Purse_read : Stmt := inClass (top 42) 1
theorem sc_Purse_read : FnScope ["cls", "text", "kinds"] ["cls", "text"] (defScope s_Purse_read) := ⟨rfl, rfl, rfl, by decide +kernel, rfl, by decide +kernel, by decide +kernel⟩
/-- the kinds with a text -/
def spKindsWith : Sp := fun vs H Q _ => ∃ bs : List Kind, vs = [.str (sheetOf bs)] ∧ GoodK bs ∧ ∀ t H', Same H H' → KindsAt H' t bs → Q (.ref t) H'
section
variable {P : Program} {w : World} {K : PySem.W.Frag} {mg : Str → Option Value} {base : Heap} {C CP : Addr}
theorem ok_read_integerK {f : Addr} {fd : FuncData} (F : Fun K "read_integer" "read_integer" s_read_integer f fd) (T : Txt K mg C CP) : FnOk P w K mg base CX0 1 f fd ["word"] spReadIntK := by
  refine F.ok sc_read_integer (fun vs H Q E h => ?_) (fun cdv A outer s H vs Q E hr h => ?_)
  · obtain ⟨i, rfl, _⟩ := h
    rfl
  · obtain ⟨i, rfl, hi, q⟩ := h
    refine ⟨_, (pss_cons (ps_set (i := 1) sc_read_integer.nd rfl (Or.inl rfl) (pe_m1 PySem.F.slot_str_removeprefix PySem.F.type_str_removeprefix mt_removeprefix (pv 0) pe_str))
  (pss_cons (ps_if (PW.pt (pw_or (pt_cmpR op_gt (pe_callB call_len_str (by rfl) T.b_len PySem.boot_len (pa_cons (pv 1) pa_nil)) (pe_globI (by rfl) T.c_MOST_DIGITS) (nomark _)) (pw_or (pt_not (pt_val (pe_m0 PySem.F.slot_str_isascii PySem.F.type_str_isascii mt_isascii (pv 1)))) (pw_or1 (pt_not (pt_val (pe_m0 PySem.F.slot_str_isdigit PySem.F.type_str_isdigit mt_isdigit (pv 1))))))))
    (pss_one (ps_ret pe_non))
    pss_nil)
  (pss_one (ps_ret (pe_callTy call_int_str (by rfl) T.b_int (by decide +kernel) (pa_cons (pv 0) pa_nil)))))), ?_⟩
    have hl := nI_len (k := 75) (by decide) hi
    have hl2 := nI_len (i := (i.natAbs : Int)) (k := 75) (by decide) (by rw [Int.natAbs_natCast]; exact hi)
    have hz : (nI i).length ≤ sizeLine := by rw [sizeLine_eq]; omega
    refine ⟨_, rfl, ⟨_, rfl⟩, _, _, rfl, rfl, hz, ?_⟩
    rw [show Txt.removeprefix (nI i) (Str.ofString "-") = nI i.natAbs from nI_pre i]
    refine ⟨_, rfl, _, rfl, (by rw [sizeLine_eq]; omega), _, _, rfl, rfl, _, rfl, ite2 (fun c => ?_) (fun _ => ?_)⟩
    · exfalso
      have c2 : ((nI i.natAbs).length : Int) > 80 := of_decide_eq_true c
      omega
    refine ⟨_, rfl, ⟨_, rfl⟩, _, rfl, rfl, trivial, _, rfl, ?_⟩
    rw [nI_ascii]
    refine iteF ⟨_, rfl, ⟨_, rfl⟩, _, rfl, rfl, trivial, _, rfl, ?_⟩
    rw [nI_digit]
    refine iteF ⟨_, rfl, _, i, rfl, nI_intK hi, by omega, q⟩
theorem ok_kind_of {f : Addr} {fd : FuncData} (F : Fun K "kind_of" "kind_of" s_kind_of f fd) (T : Txt K mg C CP) (d_read_integer : Def P w K mg base "read_integer" ["word"] 1 spReadIntK) : FnOk P w K mg base CX0 2 f fd ["line"] spKindOf := by
  refine F.ok sc_kind_of (fun vs H Q E h => ?_) (fun cdv A outer s H vs Q E hr h => ?_)
  · obtain ⟨b, rfl, _⟩ := h
    rfl
  · obtain ⟨b, rfl, hb, q⟩ := h
    refine ⟨_, (pss_cons (ps_set (i := 1) sc_kind_of.nd rfl (Or.inl rfl) (pe_split (pv 0) pe_str))
  (pss_cons (ps_if (pt_cmpR op_ne (pe_callB call_len_seq (by rfl) T.b_len (by decide +kernel) (pa_cons (pv 1) pa_nil)) pe_int (nomark _))
    (pss_one (ps_ret pe_non))
    pss_nil)
  (pss_one (ps_ret (pe_tup (pa_cons (pe_def d_read_integer (hr.mono (by decide)) (by rfl) (pa_cons (pe_ix ix_list (pv 1) pe_int (fun _ _ => rfl)) pa_nil)) (pa_cons (pe_def d_read_integer (hr.mono (by decide)) (by rfl) (pa_cons (pe_ix ix_list (pv 1) pe_int (fun _ _ => rfl)) pa_nil)) pa_nil))))))), ?_⟩
    have hl := lineK_len hb
    have hz : (lineK b).length + 2 ≤ sizeLine := by rw [sizeLine_eq]; omega
    refine ⟨_, rfl, ⟨_, rfl⟩, _, _, rfl, rfl, rfl, hz, fun p hp => ?_⟩
    rw [show Txt.split (lineK b) (Str.ofString " ") = _ from lineK_split b]
    refine ⟨_, rfl, p, _, rfl, .inl (SqL.of upd_same), rfl, _, rfl, ite2 (fun k => absurd k (by simp)) (fun _ => ?_)⟩
    refine ⟨_, rfl, p, _, _, _, rfl, rfl, SqL.of upd_same, rfl, b.1, rfl, hb.1, _, rfl, p, _, _, _, rfl, rfl, SqL.of upd_same, rfl, b.2, rfl, hb.2, (by show 2 ≤ sizeLine; decide), fun r hr => ?_⟩
    refine q r _ ?_ ((same_new hp).trans (same_new hr)) upd_same
    cases e : H r with
    | none => rfl
    | some o =>
      have z : (none : Option HO) = some o := hr.symm.trans (same_new hp _ _ e)
      cases z
theorem ok_kinds_with {f : Addr} {fd : FuncData} (F : Fun K "kinds_with" "kinds_with" s_kinds_with f fd) (T : Txt K mg C CP) (d_first_wrong_purses : Def P w K mg base "first_wrong_purses" ["kinds"] 4 spNoneK) (d_lines_of_purses : Def P w K mg base "lines_of_purses" ["kinds"] 1 spLinesOfK)
    (d_kind_of : Def P w K mg base "kind_of" ["line"] 2 spKindOf) : FnOk P w K mg base CX0 5 f fd ["text"] spKindsWith := by
  refine F.ok sc_kinds_with (fun vs H Q E h => ?_) (fun cdv A outer s H vs Q E hr h => ?_)
  · obtain ⟨bs, rfl, _⟩ := h
    rfl
  · obtain ⟨bs, rfl, g, q⟩ := h
    refine ⟨_, (pss_cons (ps_set (i := 1) sc_kinds_with.nd rfl (Or.inl rfl) (pe_split (pv 0) pe_str))
  (pss_cons (ps_set (i := 2) sc_kinds_with.nd rfl (Or.inl rfl) (pe_callTy call_tuple_of (by rfl) T.b_tuple (by decide +kernel) (pa_cons (pe_lc (own := [("line", 3)]) (g := gName 3) (tt := tYes) rfl sc_kinds_with.nd (pi_list (pv 1)) (blkOk_by (N := ["text", "lines", "kinds", "line"]) (sc := defScope s_kinds_with) (by decide +kernel)) (fun _ _ _ _ _ => pg_name (i := 3) sc_kinds_with.nd rfl (Or.inl rfl)) (fun _ _ _ _ _ => pts_nil) (fun _ _ _ _ _ => (pe_def d_kind_of (hr.mono (by decide)) (by rfl) (pa_cons (pv 3) pa_nil)))) pa_nil)))
  (pss_cons (ps_if (PW.pt (pw_or (pt_cmpR op_notN (pe_def d_first_wrong_purses (hr.mono (by decide)) (by rfl) (pa_cons (pv 2) pa_nil)) pe_non (nomark _)) (pw_or1 (pt_cmpR (op_neD hr.units) (pe_def d_lines_of_purses (hr.mono (by decide)) (by rfl) (pa_cons (pv 2) pa_nil)) (pv 1) (nomark _)))))
    (pss_one (ps_ret pe_non))
    pss_nil)
  (pss_one (ps_ret (pv 2)))))), ?_⟩
    have ne : bs ≠ [] := g.ne
    have pl := g.sheet_len
    refine ⟨_, rfl, ⟨_, rfl⟩, _, _, rfl, rfl, rfl, by rw [sizeLine_eq]; omega, fun p hp => ?_⟩
    rw [show Txt.split (sheetOf bs) (Str.ofString "\n") = bs.map lineK from sheet_split ne]
    have s0 := same_new (o := .lst ((bs.map lineK).map V.str)) hp
    refine ⟨_, rfl, p, rfl, ⟨_, SqL.of upd_same⟩, fun D hD => lc_list (K := K) (xs := (bs.map lineK).map V.str) (fun i H' => ∃ rs : List Addr, rs.length = i ∧ Same (upd H p (.lst ((bs.map lineK).map V.str))) H' ∧ H' D = some (.lst (rs.map V.ref)) ∧ ∀ (j : Nat) r b, rs[j]? = some r → bs[j]? = some b → H' r = some (.tup (kindT b)))
      ⟨[], rfl, same_new hD, upd_same, fun j r b h => by cases h⟩ (fun i H' _ ⟨rs, _, s1, _⟩ => SqL.of (s1 _ _ upd_same)) ?_ ?_⟩
    · rintro i v H1 hi ⟨rs, lr, s1, hd, ht⟩
      rw [List.getElem?_map, List.getElem?_map] at hi
      cases hb : bs[i]? with
      | none => rw [hb] at hi; cases hi
      | some b =>
        rw [hb] at hi
        cases hi
        have il := (List.getElem?_eq_some_iff.mp hb).1
        have l8 := g.len30
        refine ⟨rfl, _, rfl, b, rfl, g.short (List.mem_of_getElem? hb), fun r H2 hr s2 hr2 => ⟨_, s2 _ _ hd, ?_, rs ++ [r], ?_, fun c o e => ?_, ?_, fun j r' b' h1 h2 => ?_⟩⟩
        · rw [List.length_map, sizeLine_eq]
          omega
        · rw [List.length_append, lr]
          rfl
        · rw [upd_ne (ne_of_none e hD)]
          exact s2 _ _ (s1 _ _ e)
        · rw [upd_same, List.map_append]
          rfl
        · rcases snoc_get h1 with ⟨lj, h1⟩ | ⟨ej, rfl⟩
          · have h3 := s2 _ _ (ht j r' b' h1 h2)
            rw [upd_ne (ne_of h3 (s2 _ _ hd) (by intro z; cases z))]
            exact h3
          · rw [lr] at ej
            subst ej
            rw [hb] at h2
            cases h2
            rw [upd_ne (ne_of hr2 (s2 _ _ hd) (by intro z; cases z))]
            exact hr2
    · rintro H1 ⟨rs, lr, s1, hd, ht⟩
      rw [List.length_map, List.length_map] at lr
      refine ⟨D, _, rfl, .inl ⟨SqL.of hd, fun t ht' => ?_⟩⟩
      have s2' := same_new (o := .tup (rs.map V.ref)) ht'
      have sA := (s0.trans s1).trans s2'
      have hB : KindsAt (upd H1 t (.tup (rs.map V.ref))) t bs := ⟨rs, upd_same, lr, fun j r b h1 h2 => same_new ht' _ _ (ht j r b h1 h2)⟩
      generalize (upd H1 t (.tup (rs.map V.ref))) = H2 at s2' sA hB ⊢
      refine ⟨_, rfl, t, bs, rfl, hB, g, fun H3 s3 => ⟨rfl, _, rfl, iteF ?_⟩⟩
      refine ⟨_, rfl, t, bs, rfl, hB.same s3, g, fun D5 H5 s5 hD5 => ⟨_, rfl, strsD (bs.map lineK), strsD (bs.map lineK), dp_strs (SqL.of hD5), dp_strs (SqL.of ((((s1.trans s2').trans s3).trans s5) _ _ upd_same)), shaped_strs (linesK_lt bs), shaped_strs (linesK_lt bs), _, rfl, ?_⟩⟩
      rw [eqv_strs]
      refine iteF ?_
      exact ⟨_, rfl, q t _ (sA.trans (s3.trans s5)) (hB.same (s3.trans s5))⟩
end

section
variable {P : Program} {w : World} {K : PySem.W.Frag} {mg : Str → Option Value} {base : Heap} {C CP : Addr}
theorem ok_bands_of {f : Addr} {fd : FuncData} (F : Fun K "bands_of" "bands_of" s_bands_of f fd) (T : Txt K mg C CP) (d_Rule_bands : PDef P w K mg base C "bands" 1 (getSp C "_bands")) : FnOk P w K mg base CX0 3 f fd ["rule"] (spBandsOf C) := by
  refine F.ok sc_bands_of (fun vs H Q E h => ?_) (fun cdv A outer s H vs Q E hr h => ?_)
  · obtain ⟨r, bs, rfl, _⟩ := h
    rfl
  · obtain ⟨r, bs, rfl, ⟨dx, t, h1, hB, g⟩, q⟩ := h
    refine ⟨_, (pss_cons (ps_if (pt_not (pt_val (pe_callB call_isi (by rfl) T.b_isinstance (by decide +kernel) (pa_cons (pv 0) (pa_cons (pe_glob (v := .ref C) (by rfl) T.g_Rule rfl) pa_nil)))))
    (pss_one ps_never)
    pss_nil)
  (pss_one (ps_ret (pe_propD d_Rule_bands T.cl (pv 0) (hr.mono (by decide)))))), ?_⟩
    refine ⟨_, rfl, _, _, _, _, true, rfl, .own C, .base (.ins h1 T.cl T.ins.ha T.ins.hn T.ins.htk T.ins.hm), T.ins.me, _, rfl, iteF ?_⟩
    exact ⟨_, rfl, r, dx, _, rfl, h1, r, dx, _, _, rfl, h1, rfl, q t H (Same.refl H) hB g⟩
end

section
variable {P : Program} {w : World} {K : PySem.W.Frag} {mg : Str → Option Value} {base : Heap} {C CP : Addr}
theorem ok_first_turn {f : Addr} {fd : FuncData} (F : Fun K "first_turn" "first_turn" s_first_turn f fd) (T : Txt K mg C CP) (d_last_income : Def P w K mg base "last_income" ["bands", "index"] 1 spLastIncome) : FnOk P w K mg base CX0 2 f fd ["bands"] spFirstTurn := by
  refine F.ok sc_first_turn (fun vs H Q E h => ?_) (fun cdv A outer s H vs Q E hr h => ?_)
  · obtain ⟨t, bs, rfl, _⟩ := h
    rfl
  · obtain ⟨t, bs, rfl, hB, g, q⟩ := h
    obtain ⟨rs, h1, h2, h3⟩ := hB.sq (K := K)
    refine ⟨_, (pss_cons (ps_for PassesOwn.never rfl (pi_enumT (by rfl) T.b_enumerate (pa_cons (pv 0) pa_nil)) (pg_tup (by rfl) (pgs_cons (pg_name (i := 1) sc_first_turn.nd rfl (Or.inl rfl)) (pgs_cons (pg_tup (by rfl) (pgs_cons (pg_name (i := 2) sc_first_turn.nd rfl (Or.inl rfl)) (pgs_cons (pg_name (i := 3) sc_first_turn.nd rfl (Or.inl rfl)) (pgs_cons (pg_name (i := 4) sc_first_turn.nd rfl (Or.inl rfl)) pgs_nil)))) pgs_nil)))
    (pss_cons (ps_set (i := 5) sc_first_turn.nd rfl (Or.inl rfl) (pe_def d_last_income (hr.mono (by decide)) (by rfl) (pa_cons (pv 0) (pa_cons (pv 1) pa_nil))))
  (pss_cons (ps_if (PW.pt (pw_and (pt_cmpR op_lt (pv 4) pe_int (nomark _)) (pw_and1 (pt_cmpR op_ne (pv 5) (pv 2) (nomark _)))))
    (pss_one (ps_ret (pv 2)))
    pss_nil)
  (pss_one (ps_if (PW.pt (pw_and (pt_cmpR op_notN (pv 5) pe_non (nomark _)) (pw_and1 (pt_cmpR op_gt (pe_op op_add (pv 3) (pe_op op_mul (pv 4) (pe_op op_sub (pv 5) (pv 2)))) (pe_ix ix_tup (pe_ix ix_tup (pv 0) (pe_op op_add (pv 1) pe_int) (fun _ _ => rfl)) pe_int (fun _ _ => rfl)) (nomark _)))))
    (pss_one (ps_ret (pv 5)))
    pss_nil)))))
  (pss_one (ps_ret pe_non))), ?_⟩
    refine ⟨_, rfl, t, _, rfl, h1, for_it walk_enumT (fun i σ H' => ∃ (x1 x2 x3 x4 x5 : Option V), σ = [some (.ref t), x1, x2, x3, x4, x5] ∧ Same H H' ∧ ∀ j, j < i → turnAt bs j = none)
      ⟨none, none, none, none, none, rfl, Same.refl H, fun j hj => by omega⟩ (fun i σ H' _ ⟨_, _, _, _, _, _, s1, _⟩ => same_t s1 h1) ?_ ?_⟩
    · rintro i x σ H1 H2 hi ⟨x1, x2, x3, x4, x5, rfl, s1, hj⟩ ⟨T0, y, rfl, hT0, rfl, hy⟩
      obtain ⟨r, b, rfl, hr', hb⟩ := band_at h2 hy
      have s2 : Same H (upd H1 T0 (.tup [.int (i : Nat), .ref r])) := s1.trans (same_new hT0)
      have hbT := same_t s2 (h3 i r b hr' hb)
      have hm := List.mem_of_getElem? hb
      have hil : i < bs.length := (List.getElem?_eq_some_iff.mp hb).1
      have st := g.step b hm
      have fin : ∀ x, turnAt bs i = some x → Q (.int x) (upd H1 T0 (.tup [.int (i : Nat), .ref r])) := fun x hx => by
        have e : firstTurn bs = some x := find_some hj hil hx
        have := q _ s2
        rw [e] at this
        exact this
      have next : turnAt bs i = none → ∀ j, j < i + 1 → turnAt bs j = none := fun h j hj' => by
        by_cases e : j < i
        · exact hj j e
        · have : j = i := by omega
          rw [this]
          exact h
      refine ⟨T0, _, rfl, SqT.of upd_same, rfl, _, _, rfl, _, _, rfl, r, _, rfl, hbT, rfl, _, _, rfl, _, _, rfl, _, _, rfl, rfl, rfl, ?_⟩
      refine ⟨_, rfl, _, rfl, t, bs, i, rfl, hB.same s2, hil, ?_⟩
      cases hc : bs[i + 1]? with
      | none =>
        have e : lastOf bs i = none := by
          unfold lastOf
          rw [hc]
          rfl
        have tu : turnAt bs i = if b.2.2 < 0 then some b.1 else none := by
          unfold turnAt
          rw [hb, hc]
        rw [e]
        refine ⟨_, rfl, b.2.2, 0, rfl, rfl, _, rfl, ite2 (fun c => ?_) (fun c => ?_)⟩
        · have neg : b.2.2 < 0 := of_decide_eq_true c
          refine ⟨_, rfl, _, rfl, rfl, _, rfl, ite2 (fun k => ?_) (fun k => ?_)⟩
          · exact ⟨_, rfl, fin b.1 (by rw [tu, if_pos neg])⟩
          · exact absurd rfl k
        · have neg : ¬ b.2.2 < 0 := fun z => c (decide_eq_true z)
          refine iteF ⟨_, rfl, rfl, _, rfl, ite2 (fun k => ?_) (fun k => ?_)⟩
          · cases k
          · exact iteF ⟨_, _, _, _, _, rfl, s2, next (by rw [tu, if_neg neg])⟩
      | some c' =>
        have e : lastOf bs i = some (c'.1 - 1) := by
          unfold lastOf
          rw [hc]
          rfl
        have tu : turnAt bs i = if b.2.2 < 0 ∧ c'.1 - 1 ≠ b.1 then some b.1 else if left1 b (c'.1 - 1) > c'.2.1 then some (c'.1 - 1) else none := by
          unfold turnAt
          rw [hb, hc]
        obtain ⟨rs', h1', h2', h3'⟩ := (hB.same s2).get (K := K)
        obtain ⟨r', _, hr2, hr3⟩ := h3' _ _ hc
        rw [e]
        refine ⟨_, rfl, b.2.2, 0, rfl, rfl, _, rfl, ite2 (fun c => ⟨_, rfl, _, rfl, rfl, _, rfl, ite2 (fun k => ?r) (fun k => ?a)⟩) (fun c => iteF ?b)⟩
        case r =>
          have k2 := ne_of_dec (a := c'.1 - 1) (b := b.1) k
          exact ⟨_, rfl, fin b.1 (by rw [tu, if_pos ⟨of_decide_eq_true c, k2⟩])⟩
        case' a => have no : ¬ (b.2.2 < 0 ∧ c'.1 - 1 ≠ b.1) := fun z => z.2 (eq_of_dec (a := c'.1 - 1) (b := b.1) k)
        case' b => have no : ¬ (b.2.2 < 0 ∧ c'.1 - 1 ≠ b.1) := fun z => c (decide_eq_true z.1)
        all_goals
          rw [if_neg no] at tu
          refine ⟨_, rfl, rfl, _, rfl, iteT ?_⟩
          refine ⟨_, rfl, _, rfl, _, rfl, _, rfl, _, _, rfl, rfl, b.2.2, _, rfl, rfl, .inl ⟨by omega, by omega⟩, b.2.1, _, rfl, rfl, _, rfl, _, rfl, _, 1, rfl, rfl, t, _, _, _, rfl, rfl, h1', atI_nat (j := i + 1) hr2, r', _, 1, _, rfl, rfl, hr3, at1, _, _, rfl, rfl, _, rfl, ite2 (fun k => ?_) (fun k => ?_)⟩
          · have k2 : left1 b (c'.1 - 1) > c'.2.1 := of_decide_eq_true k
            exact ⟨_, rfl, fin _ (by rw [tu, if_pos k2])⟩
          · have k2 : ¬ left1 b (c'.1 - 1) > c'.2.1 := fun z => k (decide_eq_true z)
            exact ⟨_, _, _, _, _, rfl, s2, next (by rw [tu, if_neg k2])⟩
    · rintro σ H1 ⟨x1, x2, x3, x4, x5, rfl, s1, hj⟩
      have e : firstTurn bs = none := find_none fun j h => hj j (by rw [List.length_map]; omega)
      have := q _ s1
      rw [e] at this
      exact this
end

section
variable {P : Program} {w : World} {K : PySem.W.Frag} {mg : Str → Option Value} {base : Heap} {C CP : Addr}
theorem ok_left_by_both {f : Addr} {fd : FuncData} (F : Fun K "left_by_both" "left_by_both" s_left_by_both f fd) (T : Txt K mg C CP) (d_left_by : Def P w K mg base "left_by" ["bands", "income"] 1 spLeftBy) : FnOk P w K mg base CX0 2 f fd ["bands", "others", "income"] spBoth := by
  refine F.ok sc_left_by_both (fun vs H Q E h => ?_) (fun cdv A outer s H vs Q E hr h => ?_)
  · obtain ⟨t, u, bs, cs, x, rfl, _⟩ := h
    rfl
  · obtain ⟨t, u, bs, cs, x, rfl, hB, g, hC, g', x0, q⟩ := h
    refine ⟨_, (pss_cons (ps_par (i := 3) (j := 4) (by rfl) sc_left_by_both.nd rfl rfl (by decide) rfl rfl (pa_cons (pe_def d_left_by (hr.mono (by decide)) (by rfl) (pa_cons (pv 0) (pa_cons (pv 2) pa_nil))) (pa_cons (pe_def d_left_by (hr.mono (by decide)) (by rfl) (pa_cons (pv 0) (pa_cons (pe_op op_add (pv 2) pe_int) pa_nil))) pa_nil)) (by rfl))
  (pss_one (ps_ret (pe_tup (pa_cons (pv 3) (pa_cons (pv 4) (pa_cons (pe_def d_left_by (hr.mono (by decide)) (by rfl) (pa_cons (pv 1) (pa_cons (pv 2) pa_nil))) (pa_cons (pe_def d_left_by (hr.mono (by decide)) (by rfl) (pa_cons (pv 1) (pa_cons (pe_op op_add (pv 2) pe_int) pa_nil))) pa_nil)))))))), ?_⟩
    refine ⟨_, rfl, _, rfl, t, bs, x, rfl, hB, g, x0, fun H1 s1 => ⟨_, rfl, _, rfl, _, 1, rfl, rfl, t, bs, x + 1, rfl, hB.same s1, g, by omega, fun H2 s2 => ⟨_, _, rfl, ?_⟩⟩⟩
    have s12 := s1.trans s2
    refine ⟨_, rfl, _, rfl, _, rfl, _, rfl, u, cs, x, rfl, hC.same s12, g', x0, fun H3 s3 => ⟨_, rfl, _, rfl, _, 1, rfl, rfl, u, cs, x + 1, rfl, (hC.same s12).same s3, g', by omega, fun H4 s4 => ⟨(by show 4 ≤ sizeLine; decide), fun p hp => ?_⟩⟩⟩
    have sA := s12.trans (s3.trans s4)
    exact q p _ (sA.free hp) (sA.trans (same_new hp)) upd_same
theorem ok_breaks {f : Addr} {fd : FuncData} (F : Fun K "breaks" "breaks" s_breaks f fd) (T : Txt K mg C CP) : FnOk P w K mg base CX0 1 f fd ["left"] (spBreaks K) := by
  refine F.ok sc_breaks (fun vs H Q E h => ?_) (fun cdv A outer s H vs Q E hr h => ?_)
  · obtain ⟨p, q, rfl, _⟩ := h
    rfl
  · obtain ⟨p, ⟨a, b, c, d⟩, rfl, hT, ⟨b1, b2, b3, b4⟩, q⟩ := h
    refine ⟨_, (pss_cons (ps_asg (pv 0) (pg_tup (by rfl) (pgs_cons (pg_name (i := 1) sc_breaks.nd rfl (Or.inl rfl)) (pgs_cons (pg_name (i := 2) sc_breaks.nd rfl (Or.inl rfl)) (pgs_cons (pg_name (i := 3) sc_breaks.nd rfl (Or.inl rfl)) (pgs_cons (pg_name (i := 4) sc_breaks.nd rfl (Or.inl rfl)) pgs_nil))))))
  (pss_cons (ps_if (pt_cmpR op_eq (pv 3) (pv 4) (nomark _))
    (pss_one (ps_ret (pe_cmpR op_ne (pv 1) (pv 2) (nomark _))))
    pss_nil)
  (pss_one (ps_ret (pe_or (pe_cmpR op_gt (pv 1) (pv 2) (nomark _)) (pe_one (pe_cmpR op_lt (pe_op op_mulW (pv 1) (pv 4)) (pe_op op_mulW (pv 2) (pv 3)) (nomark _)))))))), ?_⟩
    refine ⟨_, rfl, p, _, rfl, hT, rfl, _, _, rfl, _, _, rfl, _, _, rfl, _, _, rfl, rfl, ?_⟩
    unfold brk at q
    refine ⟨_, rfl, _, rfl, rfl, _, rfl, ite2 (fun k => ?_) (fun k => ?_)⟩
    · have e : c = d := V.int.inj (of_decide_eq_true k)
      rw [if_pos e] at q
      refine ⟨_, rfl, _, rfl, rfl, ?_⟩
      have e2 : (!decide (V.int a = V.int b)) = decide (a ≠ b) := by
        by_cases z : a = b <;> simp [z]
      rw [e2]
      exact q
    · have e : ¬ c = d := fun z => k (by rw [z]; exact decide_eq_true rfl)
      rw [if_neg e] at q
      refine ⟨_, rfl, _, rfl, _, _, rfl, rfl, _, rfl, ite2 (fun k2 => ?_) (fun k2 => ?_)⟩
      · have z : a > b := of_decide_eq_true k2
        simp only [z, decide_true, Bool.true_or] at q
        exact q
      · have z : ¬ a > b := fun z => k2 (decide_eq_true z)
        simp only [z, decide_false, Bool.false_or] at q
        exact ⟨_, rfl, _, rfl, _, _, rfl, rfl, wide_mul b1 b4 (by decide) (by decide) (by decide), _, rfl, _, rfl, _, _, rfl, rfl, wide_mul b2 b3 (by decide) (by decide) (by decide), _, _, rfl, rfl, q⟩
theorem ok_neighbours {f : Addr} {fd : FuncData} (F : Fun K "neighbours" "neighbours" s_neighbours f fd) (T : Txt K mg C CP) (d_left_by_both : Def P w K mg base "left_by_both" ["bands", "others", "income"] 2 spBoth) : FnOk P w K mg base CX0 3 f fd ["bands", "others"] spNeigh := by
  refine F.ok sc_neighbours (fun vs H Q E h => ?_) (fun cdv A outer s H vs Q E hr h => ?_)
  · obtain ⟨t, u, bs, cs, rfl, _⟩ := h
    rfl
  · obtain ⟨t, u, bs, cs, rfl, hB, g, hC, g', q⟩ := h
    obtain ⟨rs, e1, e2, e3⟩ := id hB
    obtain ⟨rs', e1', e2', e3'⟩ := id hC
    have l8 := g.len8
    have l8' := g'.len8
    have R : RowsL bandT H (rs ++ rs') (bs ++ cs) := RowsL.app ⟨e2, e3⟩ ⟨e2', e3'⟩
    have lbc : (bs ++ cs).length ≤ 16 := by rw [List.length_append]; omega
    refine ⟨_, (pss_cons (ps_setLc (i := 2) (own := [("start", 3), ("value", 4), ("step", 5)]) (g := (gTup K 3 (gCons (gName 3) (gCons (gName 4) (gCons (gName 5) gNil))))) (tt := tYes) rfl sc_neighbours.nd rfl rfl (sw_true rfl rfl rfl (by decide +kernel)) (pi_tup (pe_op op_catA (pv 0) (pv 1))) (blkOk_by (N := ["bands", "others", "starts", "start", "value", "step", "seams", "income"]) (sc := defScope s_neighbours) (by decide +kernel)) (fun _ _ _ _ _ => (pg_tup (by rfl) (pgs_cons (pg_name (i := 3) sc_neighbours.nd rfl (Or.inl rfl)) (pgs_cons (pg_name (i := 4) sc_neighbours.nd rfl (Or.inl rfl)) (pgs_cons (pg_name (i := 5) sc_neighbours.nd rfl (Or.inl rfl)) pgs_nil))))) (fun _ _ _ _ _ => pts_nil) (fun _ _ _ _ _ => (pv 3)))
  (pss_cons (ps_setLc (i := 6) (own := [("start", 3)]) (g := gName 3)  rfl sc_neighbours.nd rfl rfl (sw_true rfl rfl rfl (by decide +kernel)) (pi_list (pv 2)) (blkOk_by (N := ["bands", "others", "starts", "start", "value", "step", "seams", "income"]) (sc := defScope s_neighbours) (by decide +kernel)) (fun _ _ _ _ _ => pg_name (i := 3) sc_neighbours.nd rfl (Or.inl rfl)) (fun _ _ _ _ _ => pts_one (pt_cmpR op_gt (pv 3) pe_int (nomark _))) (fun _ _ _ _ _ => (pe_op op_sub (pv 3) pe_int)))
  (pss_one (ps_ret (pe_lc (own := [("income", 7)]) (g := gName 7) (tt := tYes) rfl sc_neighbours.nd (pi_list (pe_callB (cr_sortedSet rfl) (by rfl) T.b_sorted (by decide +kernel) (pa_cons (pe_callTy (call_setL rfl) (by rfl) T.b_set (by decide +kernel) (pa_cons (pe_op op_cat (pv 2) (pv 6)) pa_nil)) pa_nil))) (blkOk_by (N := ["bands", "others", "starts", "start", "value", "step", "seams", "income"]) (sc := defScope s_neighbours) (by decide +kernel)) (fun _ _ _ _ _ => pg_name (i := 7) sc_neighbours.nd rfl (Or.inl rfl)) (fun _ _ _ _ _ => pts_nil) (fun _ _ _ _ _ => (pe_tup (pa_cons (pv 7) (pa_cons (pe_def d_left_by_both (hr.mono (by decide)) (by rfl) (pa_cons (pv 0) (pa_cons (pv 1) (pa_cons (pv 7) pa_nil)))) pa_nil))))))))), ?_⟩
    refine ⟨_, rfl, _, rfl, catA_any e1 e1' (by rw [List.length_map, List.length_map, sizeLine_eq]; omega) fun p H1 s1 hp => ⟨p, rfl, ⟨_, SqT.of hp⟩, fun D hD => ?_⟩⟩
    rw [← List.map_append] at hp
    have el : ((rs ++ rs').map V.ref).length = (bs ++ cs).length := by rw [List.length_map, R.len]
    refine lc_tup (K := K) (g := gTup K 3 (gCons (gName 3) (gCons (gName 4) (gCons (gName 5) gNil)))) (tt := tYes) (xs := (rs ++ rs').map V.ref) (fun i H' => Same H1 H' ∧ H' D = some (.lst ((((bs ++ cs).take i).map fun b => b.1).map V.int))) ⟨same_new hD, upd_same⟩ (fun i H' _ ⟨s2, _⟩ => same_t s2 (SqT.of hp)) ?_ ?_
    · rintro i v H2 hi ⟨s2, hd⟩
      obtain ⟨r', b, rfl, hr', hb⟩ := row_at R.len hi
      have hT := SqT.of (s2 _ _ (s1 _ _ (R.at_ i r' b hr' hb))) (K := K)
      refine ⟨r', _, rfl, hT, rfl, _, _, rfl, _, _, rfl, _, _, rfl, rfl, rfl, _, rfl, _, hd, ?_, fun c o e => ?_, ?_⟩
      · rw [List.length_map, List.length_map, List.length_take, sizeLine_eq]
        omega
      · rw [upd_ne (ne_of_none e hD)]
        exact s2 _ _ e
      · rw [upd_same, take_snoc hb, List.map_append, List.map_append]
        rfl
    · rintro H2 ⟨s2, hd⟩
      rw [el, List.take_length] at hd
      refine ⟨_, rfl, D, rfl, ⟨_, SqL.of hd⟩, fun D2 hD2 => lc_list (K := K) (xs := ((bs ++ cs).map fun b => b.1).map V.int) (fun i H' => Same H2 H' ∧ H' D2 = some (.lst (((((bs ++ cs).take i).filter fun b => decide (0 < b.1)).map fun b => b.1 - 1).map V.int))) ⟨same_new hD2, upd_same⟩ (fun i H' _ ⟨s3, _⟩ => SqL.of (s3 _ _ hd)) ?_ ?_⟩
      · rintro i v H3 hi ⟨s3, hd2⟩
        rw [List.getElem?_map, List.getElem?_map] at hi
        cases hb : (bs ++ cs)[i]? with
        | none => rw [hb] at hi; cases hi
        | some b =>
          rw [hb] at hi
          cases hi
          refine ⟨rfl, _, rfl, b.1, 0, rfl, rfl, _, rfl, ite2 (fun c => ?_) (fun c => ?_)⟩
          · have c2 : decide (0 < b.1) = true := c
            refine ⟨_, rfl, b.1, 1, rfl, rfl, _, hd2, ?_, fun c o e => ?_, ?_⟩
            · rw [List.length_map, List.length_map]
              refine Nat.lt_of_le_of_lt (List.length_filter_le _ _) ?_
              rw [List.length_take, sizeLine_eq]
              omega
            · rw [upd_ne (ne_of_none e hD2)]
              exact s3 _ _ e
            · rw [upd_same, take_snoc hb, List.filter_append, List.map_append, List.map_append]
              simp [c2]
          · have c2 : decide (0 < b.1) = false := by
              cases e : decide (0 < b.1) with
              | false => rfl
              | true => exact absurd e c
            refine ⟨s3, ?_⟩
            rw [take_snoc hb, List.filter_append]
            simp only [List.filter_cons, c2, List.filter_nil, Bool.false_eq_true, if_false, List.append_nil]
            exact hd2
      · rintro H3 ⟨s3, hd2⟩
        rw [List.length_map, List.length_map, List.take_length] at hd2
        have hd3 := s3 _ _ hd
        refine ⟨_, rfl, _, rfl, D, D2, _, _, rfl, rfl, hd3, hd2, ?_, fun l hl => ?_⟩
        · rw [List.length_map, List.length_map, List.length_map, List.length_map]
          have := List.length_filter_le (fun b : Band => decide (0 < b.1)) (bs ++ cs)
          rw [sizeLine_eq]
          omega
        have sl := same_new (o := .lst (((bs ++ cs).map fun b => b.1).map V.int ++ (((bs ++ cs).filter fun b => decide (0 < b.1)).map fun b => b.1 - 1).map V.int)) hl
        have lf := List.length_filter_le (fun b : Band => decide (0 < b.1)) (bs ++ cs)
        refine ⟨l, ((bs ++ cs).map fun b => b.1) ++ (((bs ++ cs).filter fun b => decide (0 < b.1)).map fun b => b.1 - 1), rfl, SqL.of (upd_same.trans (congrArg (fun z => some (HO.lst z)) List.map_append.symm)), ?_, fun st c hst hc => ?_⟩
        · rw [List.length_append, List.length_map, List.length_map]
          omega
        rw [List.length_append, List.length_map, List.length_map] at hc
        refine ⟨st, _, c, rfl, upd_same, by omega, fun xs o pw hmem hlen ho => ?_⟩
        have sp : Spots bs cs xs := ⟨pw, fun x => by
          rw [hmem x, decide_eq_true_iff, List.mem_append]
          constructor
          · rintro (m | m)
            · obtain ⟨b, hb, rfl⟩ := List.mem_map.mp m
              exact ⟨b, hb, .inl rfl⟩
            · obtain ⟨b, hb, rfl⟩ := List.mem_map.mp m
              obtain ⟨hb1, hb2⟩ := List.mem_filter.mp hb
              exact ⟨b, hb1, .inr ⟨of_decide_eq_true hb2, rfl⟩⟩
          · rintro ⟨b, hb, e | ⟨e0, e⟩⟩
            · exact .inl (by rw [e]; exact List.mem_map_of_mem hb)
            · exact .inr (by rw [e]; exact List.mem_map_of_mem (f := fun b : Band => b.1 - 1) (List.mem_filter.mpr ⟨hb, decide_eq_true e0⟩))⟩
        have x64 : xs.length < 64 := by omega
        have sSt := same_new (o := SetO w st (fun j => decide (j ∈ ((bs ++ cs).map fun b => b.1) ++ (((bs ++ cs).filter fun b => decide (0 < b.1)).map fun b => b.1 - 1))) c) hst
        have so := same_new (o := .lst (xs.map V.int)) ho
        have sAll := s1.trans (s2.trans (s3.trans (sl.trans (sSt.trans so))))
        have R1 : BandsAt H1 t bs := hB.same s1
        have R2 : BandsAt H1 u cs := hC.same s1
        have sp0 : Same H1 _ := s2.trans (s3.trans (sl.trans (sSt.trans so)))
        refine ⟨o, rfl, ⟨_, SqL.of upd_same⟩, fun D3 hD3 => lc_list (K := K) (xs := xs.map V.int) (fun i H' => Same H1 H' ∧ H' o = some (.lst (xs.map V.int)) ∧ ∃ ps qs : List Addr, H' D3 = some (.lst (ps.map V.ref)) ∧ ps.length = i ∧ qs.length = i ∧ ∀ (j : Nat) r q x, ps[j]? = some r → qs[j]? = some q → xs[j]? = some x → H' r = some (.tup [.int x, .ref q]) ∧ H' q = some (.tup (quadT (quad bs cs x))))
          ⟨sp0.trans (same_new hD3), same_new hD3 _ _ upd_same, [], [], upd_same, rfl, rfl, fun j r q x h => (by cases h)⟩ (fun i H' _ ⟨_, h, _⟩ => SqL.of h) ?_ ?_⟩
        · rintro i v H4 hi ⟨s4, ho4, ps, qs, hd4, lp, lq, hall⟩
          rw [List.getElem?_map] at hi
          cases hx : xs[i]? with
          | none => rw [hx] at hi; cases hi
          | some x =>
            rw [hx] at hi
            cases hi
            have il := (List.getElem?_eq_some_iff.mp hx).1
            have xb := spot_bounds g.tame g'.tame ((sp.mem x).mp (List.mem_of_getElem? hx))
            refine ⟨rfl, _, rfl, _, rfl, _, rfl, _, rfl, t, u, bs, cs, x, rfl, R1.same s4, g, R2.same s4, g', xb.1, fun q5 H5 hq5 s5 h5 => ⟨(by show 2 ≤ sizeLine; decide), fun r5 hr5 => ?_⟩⟩
            have s6 := same_new (o := .tup [.int x, .ref q5]) hr5
            have hd6 := s6 _ _ (s5 _ _ hd4)
            have oD : o ≠ D3 := fun z => by
              rw [← z, upd_same] at hD3
              cases hD3
            refine ⟨_, hd6, by rw [List.length_map, sizeLine_eq]; omega, fun c' o' e => ?_, ?_, ps ++ [r5], qs ++ [q5], by rw [upd_same, List.map_append]; rfl, by rw [List.length_append, lp]; rfl, by rw [List.length_append, lq]; rfl, fun j r q y h1 h2 h3 => ?_⟩
            · have h7 := s6 _ _ (s5 _ _ (s4 _ _ e))
              rw [upd_ne (ne_of_none (sp0 _ _ e) hD3)]
              exact h7
            · rw [upd_ne oD]
              exact s6 _ _ (s5 _ _ ho4)
            · rcases snoc_get h1 with ⟨j1, h1⟩ | ⟨e1, rfl⟩
              · rcases snoc_get h2 with ⟨_, h2⟩ | ⟨e2, _⟩
                · obtain ⟨a1, a2⟩ := hall j r q y h1 h2 h3
                  have b1 := s6 _ _ (s5 _ _ a1)
                  have b2 := s6 _ _ (s5 _ _ a2)
                  rw [upd_ne (ne_of b1 hd6 (by intro z; cases z)), upd_ne (ne_of b2 hd6 (by intro z; cases z))]
                  exact ⟨b1, b2⟩
                · omega
              · rcases snoc_get h2 with ⟨j2, _⟩ | ⟨_, rfl⟩
                · omega
                · have : j = i := by omega
                  subst this
                  rw [hx] at h3
                  cases h3
                  have b1 : (upd H5 r (.tup [.int x, .ref q])) r = some (.tup [.int x, .ref q]) := upd_same
                  have b2 := s6 _ _ h5
                  rw [upd_ne (ne_of b1 hd6 (by intro z; cases z)), upd_ne (ne_of b2 hd6 (by intro z; cases z))]
                  exact ⟨b1, b2⟩
        · rintro H4 ⟨s4, ho4, ps, qs, hd4, lp, lq, hall⟩
          rw [List.length_map] at lp lq
          exact q D3 H4 xs (s1.trans s4) sp ⟨ps, qs, hd4, lp, lq, hall⟩
theorem ok_other {f : Addr} {fd : FuncData} (F : Fun K "other_bands" "other_bands" s_other_bands f fd) (T : Txt K mg C CP) (d_plain : Def P w K mg base "plain" [] 8 (spPlain C)) (d_Rule_bands : PDef P w K mg base C "bands" 1 (getSp C "_bands"))
    (d_bands_of : Def P w K mg base "bands_of" ["rule"] 3 (spBandsOf C)) : FnOk P w K mg base CX0 9 f fd ["other"] (spOrdered C) := by
  refine F.ok sc_other_bands (fun vs H Q E h => ?_) (fun cdv A outer s H vs Q E hr h => ?_)
  · obtain ⟨v, cs, rfl, _⟩ := h
    rfl
  · obtain ⟨v, cs, rfl, ho, q⟩ := h
    refine ⟨_, (pss_cons (ps_if (pt_cmpR op_isN (pv 0) pe_non (nomark _))
    (pss_one (ps_ret (pe_propD d_Rule_bands T.cl (pe_def0 d_plain (hr.mono (by decide)) (by rfl)) (hr.mono (by decide)))))
    pss_nil)
  (pss_one (ps_ret (pe_def d_bands_of (hr.mono (by decide)) (by rfl) (pa_cons (pv 0) pa_nil))))), ?_⟩
    rcases ho with ⟨rfl, rfl⟩ | ⟨r, rfl, R, t⟩
    · refine ⟨_, rfl, rfl, _, rfl, iteT ⟨rfl, fun pl H1 hpl s1 R1 => ?_⟩⟩
      obtain ⟨dx, tt, h1, hB, g⟩ := R1
      exact ⟨pl, dx, _, rfl, h1, pl, dx, _, _, rfl, h1, rfl, q tt H1 s1 hB g⟩
    · exact ⟨_, rfl, rfl, _, rfl, iteF ⟨_, rfl, r, cs, rfl, R, fun tt H1 s1 hB g => q tt H1 s1 hB g⟩⟩
theorem ok_ordered {f : Addr} {fd : FuncData} (F : Fun K "ordered_bands" "ordered_bands" s_ordered_bands f fd) (T : Txt K mg C CP) (d_other_bands : Def P w K mg base "other_bands" ["other"] 9 (spOrdered C)) (d_first_turn : Def P w K mg base "first_turn" ["bands"] 2 spFirstTurn) : FnOk P w K mg base CX0 10 f fd ["other"] (spOrdered C) := by
  refine F.ok sc_ordered_bands (fun vs H Q E h => ?_) (fun cdv A outer s H vs Q E hr h => ?_)
  · obtain ⟨v, cs, rfl, _⟩ := h
    rfl
  · obtain ⟨v, cs, rfl, ho, q⟩ := h
    refine ⟨_, (pss_cons (ps_set (i := 1) sc_ordered_bands.nd rfl (Or.inl rfl) (pe_def d_other_bands (hr.mono (by decide)) (by rfl) (pa_cons (pv 0) pa_nil)))
  (pss_cons (ps_set (i := 2) sc_ordered_bands.nd rfl (Or.inl rfl) (pe_def d_first_turn (hr.mono (by decide)) (by rfl) (pa_cons (pv 1) pa_nil)))
  (pss_cons (ps_if (pt_cmpR op_notN (pv 2) pe_non (nomark _))
    (pss_one ps_never)
    pss_nil)
  (pss_one (ps_ret (pv 1)))))), ?_⟩
    have t := ho.up.2
    refine ⟨_, rfl, v, cs, rfl, ho, fun tt H1 s1 hB g => ?_⟩
    refine ⟨_, rfl, tt, cs, rfl, hB, g, fun H2 s2 => ?_⟩
    rw [t]
    exact ⟨_, rfl, rfl, _, rfl, iteF ⟨_, rfl, q tt H2 (s1.trans s2) (hB.same s2) g⟩⟩
end

section
variable {P : Program} {w : World} {K : PySem.W.Frag} {mg : Str → Option Value} {base : Heap} {C CP : Addr}
theorem ok_compared {f : Addr} {fd : FuncData} (F : Fun K "compared" "compared" s_compared f fd) (T : Txt K mg C CP) (d_bands_of : Def P w K mg base "bands_of" ["rule"] 3 (spBandsOf C)) (d_neighbours : Def P w K mg base "neighbours" ["bands", "others"] 3 spNeigh)
    (d_ordered_bands : Def P w K mg base "ordered_bands" ["other"] 10 (spOrdered C)) : FnOk P w K mg base CX0 11 f fd ["one", "other"] (spCompared C) := by
  refine F.ok sc_compared (fun vs H Q E h => ?_) (fun cdv A outer s H vs Q E hr h => ?_)
  · obtain ⟨r, v, bs, cs, rfl, _⟩ := h
    rfl
  · obtain ⟨r, v, bs, cs, rfl, R, o, q⟩ := h
    refine ⟨_, (pss_cons (ps_set (i := 2) sc_compared.nd rfl (Or.inl rfl) (pe_def d_bands_of (hr.mono (by decide)) (by rfl) (pa_cons (pv 0) pa_nil)))
  (pss_one (ps_ret (pe_def d_neighbours (hr.mono (by decide)) (by rfl) (pa_cons (pv 2) (pa_cons (pe_def d_ordered_bands (hr.mono (by decide)) (by rfl) (pa_cons (pv 1) pa_nil)) pa_nil)))))), ?_⟩
    refine ⟨_, rfl, r, bs, rfl, R, fun t H1 s1 hB g => ?_⟩
    refine ⟨_, rfl, _, rfl, v, cs, rfl, o.same s1, fun u H2 s2 hC g' => ?_⟩
    exact ⟨t, u, bs, cs, rfl, hB.same s2, g, hC, g', fun p H3 xs s3 sp nb => q p H3 xs (s1.trans (s2.trans s3)) sp nb⟩
theorem ok_first_broken {f : Addr} {fd : FuncData} (F : Fun K "first_broken" "first_broken" s_first_broken f fd) (T : Txt K mg C CP) (d_breaks : Def P w K mg base "breaks" ["left"] 1 (spBreaks K)) : FnOk P w K mg base CX0 2 f fd ["pairs"] spFirstBroken := by
  refine F.ok sc_first_broken (fun vs H Q E h => ?_) (fun cdv A outer s H vs Q E hr h => ?_)
  · obtain ⟨p, bs, cs, xs, rfl, _⟩ := h
    rfl
  · obtain ⟨p, bs, cs, xs, rfl, ⟨rs, qs, h1, h2, h3, h4⟩, sm, q0, q1⟩ := h
    refine ⟨_, (pss_cons (ps_for PassesOwn.never rfl (pi_list (pv 0)) (pg_tup (by rfl) (pgs_cons (pg_name (i := 1) sc_first_broken.nd rfl (Or.inl rfl)) (pgs_cons (pg_name (i := 2) sc_first_broken.nd rfl (Or.inl rfl)) pgs_nil)))
    (pss_one (ps_if (pt_val (pe_def d_breaks (hr.mono (by decide)) (by rfl) (pa_cons (pv 2) pa_nil)))
    (pss_one (ps_ret (pe_tup (pa_cons (pv 1) (pa_cons (pv 2) pa_nil)))))
    pss_nil)))
  (pss_one (ps_ret pe_non))), ?_⟩
    refine ⟨_, rfl, p, rfl, ⟨_, SqL.of h1⟩, for_list (K := K) (xs := rs.map V.ref) (fun i σ H' => ∃ (x1 x2 : Option V), σ = [some (.ref p), x1, x2] ∧ H' = H ∧ ∀ x ∈ xs.take i, brk (quad bs cs x) = false)
      ⟨none, none, rfl, rfl, fun x hx => (by cases hx)⟩ (fun i σ H' _ ⟨_, _, _, e, _⟩ => SqL.of (by rw [e]; exact h1)) ?_ ?_⟩
    · rintro i v σ H1 hi ⟨x1, x2, rfl, rfl, hf⟩
      obtain ⟨r, x, rfl, hr', hx⟩ := row_at h2 hi
      have il := (List.getElem?_eq_some_iff.mp hx).1
      have hq : qs[i]? = some (qs[i]'(by omega)) := List.getElem?_eq_getElem _
      obtain ⟨k1, k2⟩ := h4 i r _ x hr' hq hx
      refine ⟨r, _, rfl, SqT.of k1, rfl, _, _, rfl, _, _, rfl, rfl, ?_⟩
      refine ⟨_, rfl, _, _, rfl, SqT.of k2, sm x (List.mem_of_getElem? hx), _, rfl, ite2 (fun c => ?_) (fun c => ?_)⟩
      · have fb : firstBrk bs cs xs = some x := by
          unfold firstBrk
          have e := split_at hx
          rw [e, List.find?_append, List.find?_append]
          have n : (xs.take i).find? (fun x => brk (quad bs cs x)) = none := by
            rw [List.find?_eq_none]
            intro y hy
            rw [hf y hy]
            decide
          rw [n]
          simp [c]
        refine ⟨_, rfl, _, rfl, (by show 2 ≤ sizeLine; decide), fun t ht => q1 x fb t _ _ (same_new ht) upd_same (same_new ht _ _ k2)⟩
      · refine ⟨_, _, rfl, rfl, fun y hy => ?_⟩
        rw [take_snoc hx] at hy
        rcases List.mem_append.mp hy with m | m
        · exact hf y m
        · rw [List.mem_singleton.mp m]
          simpa using c
    · rintro σ H1 ⟨x1, x2, rfl, rfl, hf⟩
      rw [List.length_map, h2, List.take_length] at hf
      exact q0 (first_none.mpr hf)
end

section
variable {P : Program} {w : World} {K : PySem.W.Frag} {mg : Str → Option Value} {base : Heap} {C CP : Addr}
theorem ok_many_above {f : Addr} {fd : FuncData} (F : Fun K "many_above" "many_above" s_many_above f fd) (T : Txt K mg C CP) : FnOk P w K mg base CX0 1 f fd ["left"] (spMany K) := by
  refine F.ok sc_many_above (fun vs H Q E h => ?_) (fun cdv A outer s H vs Q E hr h => ?_)
  · obtain ⟨p, q, rfl, _⟩ := h
    rfl
  · obtain ⟨p, ⟨f0, f1, g0, g1⟩, rfl, hT, hb, ⟨a0, b0⟩, ⟨a1, b1⟩, ⟨a2, b2⟩, ⟨a3, b3⟩, q⟩ := h
    have b4 := brk_brk4 hb
    dsimp only at *
    refine ⟨_, (pss_cons (ps_asg (pv 0) (pg_tup (by rfl) (pgs_cons (pg_name (i := 1) sc_many_above.nd rfl (Or.inl rfl)) (pgs_cons (pg_name (i := 2) sc_many_above.nd rfl (Or.inl rfl)) (pgs_cons (pg_name (i := 3) sc_many_above.nd rfl (Or.inl rfl)) (pgs_cons (pg_name (i := 4) sc_many_above.nd rfl (Or.inl rfl)) pgs_nil))))))
  (pss_cons (ps_if (PW.pt (pw_or (pt_cmpR op_lt (pv 1) (pv 2) (nomark _)) (pw_or1 (pt_cmpR op_eq (pv 3) (pv 4) (nomark _)))))
    (pss_one (ps_ret pe_int))
    pss_nil)
  (pss_one (ps_ret (pe_op op_add (pe_op op_fdivW (pe_op op_mulW (pv 1) (pe_op op_sub (pv 4) (pv 3))) (pe_op op_mulW (pv 4) (pe_op op_sub (pv 1) (pv 2)))) pe_int))))), ?_⟩
    refine ⟨_, rfl, p, _, rfl, hT, rfl, _, _, rfl, _, _, rfl, _, _, rfl, _, _, rfl, rfl, ?_⟩
    refine ⟨_, rfl, _, rfl, _, _, rfl, rfl, _, rfl, ite2 (fun c => ?_) (fun c => ?_)⟩
    · have z : f0 < f1 := of_decide_eq_true c
      rw [show manyOf (f0, f1, g0, g1) = 1 from if_pos (.inl z)] at q
      exact q
    · have nz : ¬ f0 < f1 := fun z => c (decide_eq_true z)
      refine ⟨_, rfl, _, rfl, rfl, _, rfl, ite2 (fun c2 => ?_) (fun c2 => ?_)⟩
      · have z : g0 = g1 := V.int.inj (of_decide_eq_true c2)
        rw [show manyOf (f0, f1, g0, g1) = 1 from if_pos (.inr z)] at q
        exact q
      · have ng : ¬ g0 = g1 := fun z => c2 (by rw [z]; exact decide_eq_true rfl)
        rw [show manyOf (f0, f1, g0, g1) = f0 * (g1 - g0) / (g1 * (f0 - f1)) + 1 from if_neg (by rintro (z | z); exact nz z; exact ng z)] at q
        have gt : f1 < f0 := by
          rcases b4 with ⟨e, _⟩ | ⟨_, k | k⟩
          · exact absurd e ng
          · exact k
          · by_cases e : f0 = f1
            · subst e
              have := Int.mul_le_mul_of_nonneg_left a3 a0
              omega
            · omega
        have D : 0 < g1 * (f0 - f1) := Int.mul_pos (by omega) (by omega)
        have s1 : (g1 - g0).natAbs < 2 ^ 121 := sub_bits b3 b2 (by decide) (by decide)
        have s2 : (f0 - f1).natAbs < 2 ^ 121 := sub_bits b0 b1 (by decide) (by decide)
        have s3 := wide_lt b3 s2
        have dv : CDivW (f0 * (g1 - g0)) (g1 * (f0 - f1)) := ⟨D, Nat.lt_of_lt_of_le (PySem.Flt.log2_lt_of (by decide) s3) (by decide)⟩
        refine ⟨_, rfl, _, rfl, _, rfl, _, _, rfl, rfl, _, _, rfl, rfl, wide_mul b0 s1 (by decide) (by decide) (by decide), _, rfl, _, rfl, _, rfl, _, _, rfl, rfl, _, _, rfl, rfl, wide_mul b3 s2 (by decide) (by decide) (by decide), _, _, rfl, rfl, dv, _, 1, rfl, rfl, q⟩
theorem ok_contrary {f : Addr} {fd : FuncData} (F : FunD K "contrary" "contrary" (defArgs s_contrary) (defBody s_contrary) (defScope s_contrary) [.non] [] f fd) (T : Txt K mg C CP) (d_compared : Def P w K mg base "compared" ["one", "other"] 11 (spCompared C)) (d_first_broken : Def P w K mg base "first_broken" ["pairs"] 2 spFirstBroken)
    (d_Purse_init : IDef P w K mg base CP ["self", "kinds"] 5 (spInitK CP)) (d_many_above : Def P w K mg base "many_above" ["left"] 1 (spMany K)) : FnOk P w K mg base CX0 12 f fd ["one", "other"] (spContrary C CP) := by
  refine okDN F sc_contrary (fun vs H Q E h => ?_) (fun cdv A outer s H vs Q E hr h => ?_)
  · obtain ⟨r, v, bs, cs, rfl, _⟩ := h
    rfl
  · obtain ⟨r, v, bs, cs, rfl, R, o, q⟩ := h
    have g : Good bs := by obtain ⟨_, _, _, _, g⟩ := R; exact g
    have g' := o.up.1
    have up := o.up.2
    refine ⟨_, (pss_cons (ps_set (i := 2) sc_contrary.nd rfl (Or.inl rfl) (pe_def d_first_broken (hr.mono (by decide)) (by rfl) (pa_cons (pe_def d_compared (hr.mono (by decide)) (by rfl) (pa_cons (pv 0) (pa_cons (pv 1) pa_nil))) pa_nil)))
  (pss_cons (ps_if (pt_cmpR op_isN (pv 2) pe_non (nomark _))
    (pss_one (ps_ret pe_non))
    pss_nil)
  (pss_cons (ps_asg (pv 2) (pg_tup (by rfl) (pgs_cons (pg_name (i := 3) sc_contrary.nd rfl (Or.inl rfl)) (pgs_cons (pg_name (i := 4) sc_contrary.nd rfl (Or.inl rfl)) pgs_nil))))
  (pss_one (ps_ret (pe_makeI d_Purse_init (hr.mono (by decide)) (by rfl) T.g_Purse (pa_cons (pe_tup (pa_cons (pe_tup (pa_cons (pv 3) (pa_cons pe_int pa_nil))) (pa_cons (pe_tup (pa_cons (pe_op op_add (pv 3) pe_int) (pa_cons (pe_def d_many_above (hr.mono (by decide)) (by rfl) (pa_cons (pv 4) pa_nil)) pa_nil))) pa_nil))) pa_nil) purse_made)))))), ?_⟩
    refine ⟨_, rfl, _, rfl, r, v, bs, cs, rfl, R, o, fun p H1 xs s1 sp nb => ?_⟩
    refine ⟨p, bs, cs, xs, rfl, nb, fun x hx => ?_, fun fb => ?_, fun x fb t q0 H2 s2 h2 hq2 => ?_⟩
    · have bd := spot_bounds g.tame g'.tame ((sp.mem x).mp hx)
      exact quad_small g.tame g'.tame bd.1 bd.2
    · refine ⟨_, rfl, rfl, _, rfl, ite2 (fun _ => ?_) (fun c => absurd (by simp) c)⟩
      exact (q H1 xs s1 sp).1 fb
    · refine ⟨_, rfl, rfl, _, rfl, ite2 (fun c => absurd c (by simp)) (fun _ => ?_)⟩
      have xm : x ∈ xs := List.mem_of_find?_eq_some fb
      have xb : brk (quad bs cs x) = true := by simpa using List.find?_some fb
      have bd := spot_bounds g.tame g'.tame ((sp.mem x).mp xm)
      obtain ⟨a0, a1, a2, a3⟩ := g.quad_facts g' up bd.1 bd.2
      have m1 := many_pos a0.1 a2.1 a3.1 (brk_brk4 xb)
      have m2 := many_le a0.1 a1.1 a2.1 a3.1
      have m2' : manyOf (quad bs cs x) ≤ 10 ^ 72 := by
        have := a0.2
        have : (quad bs cs x).1 < 2 ^ 120 := by omega
        have : manyOf (quad bs cs x) ≤ (quad bs cs x).1 + 1 := m2
        omega
      refine ⟨_, rfl, t, _, rfl, SqT.of h2, rfl, _, _, rfl, _, _, rfl, rfl, ?_⟩
      refine ⟨_, rfl, (by show 2 ≤ sizeLine; decide), fun b hb => ?_⟩
      have sb := same_new (o := .tup (kindT (x, 1))) hb
      refine ⟨_, rfl, _, 1, rfl, rfl, _, rfl, q0, _, rfl, SqT.of (sb _ _ hq2), xb, a0, a1, a2, a3, (by show 2 ≤ sizeLine; decide), fun c hc => ⟨(by show 2 ≤ sizeLine; decide), fun u hu => ?_⟩⟩
      obtain ⟨k1, k2⟩ := kinds_two (x := ((x, 1) : Kind)) (y := ((x + 1, manyOf (quad bs cs x)) : Kind)) hb hc hu
      exact ⟨u, _, rfl, k2, two_good bd.1 (by omega) m1 m2', fun P H3 hP s3 hP3 => (q H3 xs (s1.trans (s2.trans (k1.trans s3))) sp).2 x fb P hP3⟩
end

/-! ### the program's defs of curves -/
section
variable {P : Program} {w : World} {K : PySem.W.Frag} {mg : Str → Option Value} {base : Heap} {C CP : Addr}
theorem ok_kinds_of {f : Addr} {fd : FuncData} (F : Fun K "kinds_of" "kinds_of" s_kinds_of f fd) (T : Txt K mg C CP) (d_Purse_kinds : PDef P w K mg base CP "kinds" 1 (getSp CP "_kinds")) : FnOk P w K mg base CX0 3 f fd ["purse"] (spKindsOf CP) := by
  refine F.ok sc_kinds_of (fun vs H Q E h => ?_) (fun cdv A outer s H vs Q E hr h => ?_)
  · obtain ⟨r, ks, rfl, _⟩ := h
    rfl
  · obtain ⟨r, ks, rfl, ⟨dx, t, h1, hB, g⟩, q⟩ := h
    refine ⟨_, (pss_cons (ps_if (pt_not (pt_val (pe_callB call_isi (by rfl) T.b_isinstance (by decide +kernel) (pa_cons (pv 0) (pa_cons (pe_glob (v := .ref CP) (by rfl) T.g_Purse rfl) pa_nil)))))
    (pss_one ps_never)
    pss_nil)
  (pss_one (ps_ret (pe_propD d_Purse_kinds T.clP (pv 0) (hr.mono (by decide)))))), ?_⟩
    refine ⟨_, rfl, _, _, _, _, true, rfl, .own CP, .base (.ins h1 T.clP T.insP.ha T.insP.hn T.insP.htk T.insP.hm), T.insP.me, _, rfl, iteF ?_⟩
    exact ⟨_, rfl, r, dx, _, rfl, h1, r, dx, _, _, rfl, h1, rfl, q t H (Same.refl H) hB g⟩
end

section
variable {P : Program} {w : World} {K : PySem.W.Frag} {mg : Str → Option Value} {base : Heap} {C CP : Addr}
theorem ok_ends_of {f : Addr} {fd : FuncData} (F : Fun K "ends_of" "ends_of" s_ends_of f fd) (T : Txt K mg C CP) : FnOk P w K mg base CX0 1 f fd ["kinds"] spEndsOf := by
  refine F.ok sc_ends_of (fun vs H Q E h => ?_) (fun cdv A outer s H vs Q E hr h => ?_)
  · obtain ⟨t, ks, rfl, _⟩ := h
    rfl
  · obtain ⟨t, ks, rfl, hB, g, q⟩ := h
    obtain ⟨rs, e1, eR⟩ := hB.rows
    have e2 := eR.len
    have el : (rs.map V.ref).length = ks.length := by rw [List.length_map, e2]
    refine ⟨_, (pss_cons (ps_set (i := 1) sc_ends_of.nd rfl (Or.inl rfl) (pe_lst pa_nil))
  (pss_cons (ps_set (i := 2) sc_ends_of.nd rfl (Or.inl rfl) pe_int)
  (pss_cons (ps_for PassesOwn.never rfl (pi_tup (pv 0)) (pg_tup (by rfl) (pgs_cons (pg_name (i := 3) sc_ends_of.nd rfl (Or.inl rfl)) (pgs_cons (pg_name (i := 4) sc_ends_of.nd rfl (Or.inl rfl)) pgs_nil)))
    (pss_cons (ps_aug (i := 2) sc_ends_of.nd rfl (Or.inl rfl) (pv 4) ip_add)
  (pss_one (ps_expr (pe_bm PySem.F.plainAttrs_list PySem.F.slot_list_append PySem.F.type_list_append mt_append (pv 1) (pa_cons (pv 2) pa_nil))))))
  (pss_one (ps_ret (pv 1)))))), ?_⟩
    refine ⟨(by show 0 ≤ sizeLine; decide), fun L hL => ?_⟩
    have sL := same_new (o := .lst []) hL
    refine ⟨_, rfl, t, rfl, ⟨_, SqT.of (sL _ _ e1)⟩, for_tup (K := K) (xs := rs.map V.ref) (fun i σ H' => ∃ (x3 x4 : Option V), σ = [some (.ref t), some (.ref L), some (.int (peopleOf (ks.take i))), x3, x4] ∧ Same H H' ∧ H' L = some (.lst (((endsK ks).take i).map V.int)))
      ⟨none, none, rfl, sL, upd_same⟩ (fun i σ H' _ ⟨_, _, _, s2, _⟩ => same_t s2 (SqT.of e1)) ?_ ?_⟩
    · rintro i x σ H2 hi ⟨x3, x4, rfl, s2, hL2⟩
      obtain ⟨r', b, rfl, hr', hb⟩ := row_at e2 hi
      have hT := SqT.of (s2 _ _ (eR.at_ i r' b hr' hb)) (K := K)
      have il := (List.getElem?_eq_some_iff.mp hb).1
      refine ⟨r', _, rfl, hT, rfl, _, _, rfl, _, _, rfl, rfl, ?_⟩
      refine ⟨_, rfl, _, rfl, _, _, rfl, rfl, ?_⟩
      refine ⟨_, rfl, .inl ⟨rfl, _, SqL.of hL2⟩, _, rfl, L, _, _, rfl, rfl, hL2, ?_, ?_⟩
      · have := g.len30
        rw [List.length_map, List.length_take, ends_len, sizeLine_eq]
        omega
      · rw [take_snoc (ends_at ks il), take_snoc hb, people_snoc]
        refine ⟨_, _, rfl, fun b' o e => ?_, ?_⟩
        · rw [upd_ne (ne_of_none e hL)]
          exact s2 _ _ e
        · rw [upd_same, List.map_append]
          rfl
    · rintro σ H2 ⟨x3, x4, rfl, s2, hL2⟩
      rw [el, List.take_of_length_le (by rw [ends_len]; omega)] at hL2
      exact ⟨_, rfl, q L H2 s2 hL hL2⟩
theorem ok_total_of {f : Addr} {fd : FuncData} (F : Fun K "total_of" "total_of" s_total_of f fd) (T : Txt K mg C CP) : FnOk P w K mg base CX0 1 f fd ["kinds"] spTotalOf := by
  refine F.ok sc_total_of (fun vs H Q E h => ?_) (fun cdv A outer s H vs Q E hr h => ?_)
  · obtain ⟨t, ks, rfl, _⟩ := h
    rfl
  · obtain ⟨t, ks, rfl, hB, g, q⟩ := h
    obtain ⟨rs, e1, eR⟩ := hB.rows
    have e2 := eR.len
    have el : (rs.map V.ref).length = ks.length := by rw [List.length_map, e2]
    refine ⟨_, (pss_one (ps_ret (pe_callB (cr_sum rfl) (by rfl) T.b_sum (by decide +kernel) (pa_cons (pe_lc (own := [("amount", 1), ("count", 2)]) (g := (gTup K 2 (gCons (gName 1) (gCons (gName 2) gNil)))) (tt := tYes) rfl sc_total_of.nd (pi_tup (pv 0)) (blkOk_by (N := ["kinds", "amount", "count"]) (sc := defScope s_total_of) (by decide +kernel)) (fun _ _ _ _ _ => (pg_tup (by rfl) (pgs_cons (pg_name (i := 1) sc_total_of.nd rfl (Or.inl rfl)) (pgs_cons (pg_name (i := 2) sc_total_of.nd rfl (Or.inl rfl)) pgs_nil)))) (fun _ _ _ _ _ => pts_nil) (fun _ _ _ _ _ => (pe_op op_mulW (pv 1) (pv 2)))) pa_nil)))), ?_⟩
    refine ⟨_, rfl, t, rfl, ⟨_, SqT.of e1⟩, fun D hD => lc_tup (K := K) (g := gTup K 2 (gCons (gName 1) (gCons (gName 2) gNil))) (tt := tYes) (xs := rs.map V.ref) (fun i H' => Same H H' ∧ H' D = some (.lst (((ks.take i).map fun k => k.1 * k.2).map V.int))) ⟨same_new hD, upd_same⟩ (fun i H' _ ⟨s1, _⟩ => same_t s1 (SqT.of e1)) ?_ ?_⟩
    · rintro i v H1 hi ⟨s1, hd⟩
      obtain ⟨r', b, rfl, hr', hb⟩ := row_at e2 hi
      have hT := SqT.of (s1 _ _ (eR.at_ i r' b hr' hb)) (K := K)
      refine ⟨r', _, rfl, hT, rfl, _, _, rfl, _, _, rfl, rfl, rfl, _, rfl, _, rfl, _, _, rfl, rfl, g.mul_ok (List.mem_of_getElem? hb), _, hd, ?_, fun c o e => ?_, ?_⟩
      · have := g.len30
        rw [List.length_map, List.length_map, List.length_take, sizeLine_eq]
        omega
      · rw [upd_ne (ne_of_none e hD)]
        exact s1 _ _ e
      · rw [upd_same, List.take_add_one, hb, List.map_append, List.map_append]
        rfl
    · rintro H1 ⟨s1, hd⟩
      rw [el, List.take_length] at hd
      exact ⟨D, _, rfl, SqL.of hd, q _ s1⟩
theorem ok_lowest_share {f : Addr} {fd : FuncData} (F : Fun K "lowest_share" "lowest_share" s_lowest_share f fd) (T : Txt K mg C CP) (d_ends_of : Def P w K mg base "ends_of" ["kinds"] 1 spEndsOf) (d_total_of : Def P w K mg base "total_of" ["kinds"] 1 spTotalOf) : FnOk P w K mg base CX0 2 f fd ["kinds", "part", "whole"] spShare := by
  refine F.ok sc_lowest_share (fun vs H Q E h => ?_) (fun cdv A outer s H vs Q E hr h => ?_)
  · obtain ⟨t, ks, part, whole, rfl, _⟩ := h
    rfl
  · obtain ⟨t, ks, part, whole, rfl, hB, g, p0, p1, w1, wb, q⟩ := h
    have gp := g.people_le
    have gt := g.total_le
    have bP : (peopleOf ks).natAbs < 2 ^ 246 := nat_lt2 gp.1 (by omega)
    have bT : (totalOf ks).natAbs < 2 ^ 365 := nat_lt2 gt.1 (by omega)
    have bp : part.natAbs < 2 ^ 250 := nat_lt2 p0 (by omega)
    have bw : whole.natAbs < 2 ^ 250 := nat_lt2 (by omega) wb
    have n0 : 0 ≤ part * peopleOf ks := Int.mul_nonneg p0 gp.1
    have bN := wide_lt bp bP
    refine ⟨_, (pss_cons (ps_set (i := 3) sc_lowest_share.nd rfl (Or.inl rfl) (pe_ix ix_list (pe_def d_ends_of (hr.mono (by decide)) (by rfl) (pa_cons (pv 0) pa_nil)) (pe_un un_neg pe_int) (fun _ _ => rfl)))
  (pss_cons (ps_set (i := 4) sc_lowest_share.nd rfl (Or.inl rfl) (pe_def d_total_of (hr.mono (by decide)) (by rfl) (pa_cons (pv 0) pa_nil)))
  (pss_cons (ps_if (pt_cmpR op_eq (pv 4) pe_int (nomark _))
    (pss_one (ps_ret (pe_tup (pa_cons (pv 1) (pa_cons (pv 2) pa_nil)))))
    pss_nil)
  (pss_cons (ps_set (i := 5) sc_lowest_share.nd rfl (Or.inl rfl) (pe_op op_mulW (pv 1) (pv 3)))
  (pss_cons (ps_set (i := 6) sc_lowest_share.nd rfl (Or.inl rfl) pe_int)
  (pss_cons (ps_for PassesOwn.never rfl (pi_tup (pv 0)) (pg_tup (by rfl) (pgs_cons (pg_name (i := 7) sc_lowest_share.nd rfl (Or.inl rfl)) (pgs_cons (pg_name (i := 8) sc_lowest_share.nd rfl (Or.inl rfl)) pgs_nil)))
    (pss_cons (ps_set (i := 9) sc_lowest_share.nd rfl (Or.inl rfl) (pe_callB (call_min2 rfl) (by rfl) T.b_min (by decide +kernel) (pa_cons (pv 5) (pa_cons (pe_op op_mulW (pv 8) (pv 2)) pa_nil))))
  (pss_cons (ps_aug (i := 6) sc_lowest_share.nd rfl (Or.inl rfl) (pe_op op_mulW (pv 7) (pv 9)) ip_add)
  (pss_one (ps_aug (i := 5) sc_lowest_share.nd rfl (Or.inl rfl) (pv 9) ip_sub)))))
  (pss_one (ps_ret (pe_tup (pa_cons (pv 6) (pa_cons (pe_op op_mulW (pv 4) (pv 2)) pa_nil))))))))))), ?_⟩
    refine ⟨_, rfl, t, ks, rfl, hB, g, fun L H1 s1 hL hL1 => ?_⟩
    have lst : ((endsK ks).map V.int).getLast? = some (V.int (peopleOf ks)) := by rw [List.getLast?_map, ends_last g]; rfl
    refine ⟨1, rfl, L, _, _, _, rfl, rfl, SqL.of hL1, atLast lst, ?_⟩
    refine ⟨_, rfl, t, ks, rfl, hB.same s1, g, fun H2 s2 => ?_⟩
    have s12 := s1.trans s2
    obtain ⟨rs, e1, eR⟩ := (hB.same s12).rows
    have e2 := eR.len
    have el : (rs.map V.ref).length = ks.length := by rw [List.length_map, e2]
    refine ⟨_, rfl, rfl, _, rfl, ite2 (fun c => ?_) (fun c => ?_)⟩
    · have z : totalOf ks = 0 := V.int.inj (of_decide_eq_true c)
      refine ⟨_, rfl, _, rfl, (by show 2 ≤ sizeLine; decide), fun p hp => q p _ (s12.free hp) (s12.trans (same_new hp)) ?_⟩
      unfold shareAns
      rw [if_pos z]
      exact upd_same
    · have z : ¬ totalOf ks = 0 := fun z => c (by rw [z]; rfl)
      refine ⟨_, rfl, _, rfl, part, peopleOf ks, rfl, rfl, wide_mul bp bP (by decide) (by decide) (by decide), ?_⟩
      refine ⟨_, rfl, t, rfl, ⟨_, SqT.of e1⟩, for_tup (K := K) (xs := rs.map V.ref) (fun i σ H' => ∃ (x7 x8 x9 : Option V), σ = [some (.ref t), some (.int part), some (.int whole), some (.int (peopleOf ks)), some (.int (totalOf ks)), some (.int (shFold whole (part * peopleOf ks) (ks.take i)).2), some (.int (shFold whole (part * peopleOf ks) (ks.take i)).1), x7, x8, x9] ∧ Same H2 H')
        ⟨_, _, _, rfl, Same.refl _⟩ (fun i σ H' _ ⟨_, _, _, _, s3⟩ => same_t s3 (SqT.of e1)) ?_ ?_⟩
      · rintro i x σ H3 hi ⟨x7, x8, x9, rfl, s3⟩
        obtain ⟨r', b, rfl, hr', hb⟩ := row_at e2 hi
        have hT := SqT.of (s3 _ _ (eR.at_ i r' b hr' hb)) (K := K)
        obtain ⟨b1, b2, _, _⟩ := g.bits i (List.mem_of_getElem? hb)
        have c0 := g.cnt0 b (List.mem_of_getElem? hb)
        obtain ⟨f0, f1⟩ := shFold_rest (w := whole) (n := part * peopleOf ks) (ks := ks.take i) (by omega) n0 fun k hk => g.cnt0 k (List.mem_of_mem_take hk)
        have cw := Int.mul_nonneg c0 (by omega : 0 ≤ whole)
        have m0 := mn_nonneg f0 cw
        have m1 := mn_le (shFold whole (part * peopleOf ks) (ks.take i)).2 (b.2 * whole)
        have bm : (mn (shFold whole (part * peopleOf ks) (ks.take i)).2 (b.2 * whole)).natAbs < 2 ^ (250 + 246) := wide_le m0 (Int.le_trans m1.1 f1) bN
        refine ⟨r', _, rfl, hT, rfl, _, _, rfl, _, _, rfl, rfl, ?_⟩
        refine ⟨_, rfl, _, rfl, _, rfl, _, _, rfl, rfl, wide_mul b2 bw (by decide) (by decide) (by decide), _, _, rfl, ?_⟩
        refine ⟨_, rfl, _, rfl, _, rfl, _, _, rfl, rfl, wide_mul (i := b.1) (j := mn (shFold whole (part * peopleOf ks) (ks.take i)).2 (b.2 * whole)) b1 bm (by decide) (by decide) (by decide), _, _, rfl, rfl, ?_⟩
        refine ⟨_, rfl, _, rfl, _, _, rfl, rfl, ?_⟩
        rw [take_snoc hb, shFold_snoc]
        exact ⟨_, _, _, rfl, s3⟩
      · rintro σ H3 ⟨x7, x8, x9, rfl, s3⟩
        rw [el, List.take_length, shFold_walk]
        refine ⟨_, rfl, _, rfl, _, rfl, _, _, rfl, rfl, wide_mul bT bw (by decide) (by decide) (by decide), (by show 2 ≤ sizeLine; decide), fun p hp => q p _ ((s12.trans s3).free hp) ((s12.trans s3).trans (same_new hp)) ?_⟩
        unfold shareAns
        rw [if_neg z]
        exact upd_same
end

section
variable {P : Program} {w : World} {K : PySem.W.Frag} {mg : Str → Option Value} {base : Heap} {C CP : Addr}
theorem ok_first_crossing {f : Addr} {fd : FuncData} (F : Fun K "first_crossing" "first_crossing" s_first_crossing f fd) (T : Txt K mg C CP) (d_ends_of : Def P w K mg base "ends_of" ["kinds"] 1 spEndsOf) (d_lowest_share : Def P w K mg base "lowest_share" ["kinds", "part", "whole"] 2 spShare) : FnOk P w K mg base CX0 3 f fd ["kinds", "others"] spFirstX := by
  refine F.ok sc_first_crossing (fun vs H Q E h => ?_) (fun cdv A outer s H vs Q E hr h => ?_)
  · obtain ⟨t, u, ks, os, rfl, _⟩ := h
    rfl
  · obtain ⟨t, u, ks, os, rfl, hB, g, hC, g', q⟩ := h
    have gp := g.people_le
    have gp1 := g.people_pos
    refine ⟨_, (pss_cons (ps_set (i := 2) sc_first_crossing.nd rfl (Or.inl rfl) (pe_def d_ends_of (hr.mono (by decide)) (by rfl) (pa_cons (pv 0) pa_nil)))
  (pss_cons (ps_set (i := 3) sc_first_crossing.nd rfl (Or.inl rfl) (pe_ix ix_list (pv 2) (pe_un un_neg pe_int) (fun _ _ => rfl)))
  (pss_cons (ps_for PassesOwn.never rfl (pi_list (pv 2)) (pg_name (i := 4) sc_first_crossing.nd rfl (Or.inl rfl))
    (pss_cons (ps_asg (pe_def d_lowest_share (hr.mono (by decide)) (by rfl) (pa_cons (pv 0) (pa_cons (pv 4) (pa_cons (pv 3) pa_nil)))) (pg_tup (by rfl) (pgs_cons (pg_name (i := 5) sc_first_crossing.nd rfl (Or.inl rfl)) (pgs_cons (pg_name (i := 6) sc_first_crossing.nd rfl (Or.inl rfl)) pgs_nil))))
  (pss_cons (ps_asg (pe_def d_lowest_share (hr.mono (by decide)) (by rfl) (pa_cons (pv 1) (pa_cons (pv 4) (pa_cons (pv 3) pa_nil)))) (pg_tup (by rfl) (pgs_cons (pg_name (i := 7) sc_first_crossing.nd rfl (Or.inl rfl)) (pgs_cons (pg_name (i := 8) sc_first_crossing.nd rfl (Or.inl rfl)) pgs_nil))))
  (pss_one (ps_if (pt_cmpR op_lt (pe_op op_mulW (pv 5) (pv 8)) (pe_op op_mulW (pv 7) (pv 6)) (nomark _))
    (pss_one (ps_ret (pe_tup (pa_cons (pv 4) (pa_cons (pv 3) pa_nil)))))
    pss_nil)))))
  (pss_one (ps_ret pe_non))))), ?_⟩
    refine ⟨_, rfl, t, ks, rfl, hB, g, fun L H1 s1 hL hL1 => ?_⟩
    have lst : ((endsK ks).map V.int).getLast? = some (V.int (peopleOf ks)) := by rw [List.getLast?_map, ends_last g]; rfl
    refine ⟨_, rfl, 1, rfl, L, _, _, _, rfl, rfl, SqL.of hL1, atLast lst, ?_⟩
    refine ⟨_, rfl, L, rfl, ⟨_, SqL.of hL1⟩, for_list (K := K) (xs := (endsK ks).map V.int) (fun i σ H' => ∃ (x4 x5 x6 x7 x8 : Option V), σ = [some (.ref t), some (.ref u), some (.ref L), some (.int (peopleOf ks)), x4, x5, x6, x7, x8] ∧ Same H1 H' ∧ ∀ e ∈ (endsK ks).take i, xAt ks os e = false)
      ⟨none, none, none, none, none, rfl, Same.refl _, fun e he => (by cases he)⟩ (fun i σ H' _ ⟨_, _, _, _, _, _, s2, _⟩ => SqL.of (s2 _ _ hL1)) ?_ ?_⟩
    · rintro i v σ H2 hi ⟨x4, x5, x6, x7, x8, rfl, s2, hn⟩
      obtain ⟨e, he, rfl⟩ : ∃ e, (endsK ks)[i]? = some e ∧ v = V.int e := by
        rw [List.getElem?_map] at hi
        cases h : (endsK ks)[i]? with
        | none => rw [h] at hi; cases hi
        | some e => rw [h] at hi; cases hi; exact ⟨e, rfl, rfl⟩
      have em := ends_mem g (List.mem_of_getElem? he)
      have wb : peopleOf ks < 2 ^ 250 := by omega
      have s12 := s1.trans s2
      obtain ⟨A1, A2⟩ := share_bits g em.1 em.2 gp1 wb
      obtain ⟨B1, B2⟩ := share_bits g' em.1 em.2 gp1 wb
      refine ⟨_, rfl, _, rfl, _, rfl, t, ks, e, peopleOf ks, rfl, hB.same s12, g, em.1, em.2, gp1, wb, fun p3 H3 hp3 s3 h3 => ?_⟩
      refine ⟨p3, _, rfl, SqT.of h3, rfl, _, _, rfl, _, _, rfl, rfl, ?_⟩
      refine ⟨_, rfl, _, rfl, _, rfl, u, os, e, peopleOf ks, rfl, (hC.same s12).same s3, g', em.1, em.2, gp1, wb, fun p4 H4 hp4 s4 h4 => ?_⟩
      refine ⟨p4, _, rfl, SqT.of h4, rfl, _, _, rfl, _, _, rfl, rfl, ?_⟩
      refine ⟨_, rfl, _, rfl, _, _, rfl, rfl, wide_mul A1 B2 (by decide) (by decide) (by decide), _, rfl, _, rfl, _, _, rfl, rfl, wide_mul B1 A2 (by decide) (by decide) (by decide), _, _, rfl, rfl, _, rfl, ite2 (fun c => ?_) (fun c => ?_)⟩
      · have xe : xAt ks os e = true := c
        have fx : crossOf ks os = some e := by
          unfold crossOf
          have e0 := split_at he
          rw [e0, List.find?_append, List.find?_append]
          have n : ((endsK ks).take i).find? (xAt ks os) = none := by
            rw [List.find?_eq_none]
            intro y hy
            rw [hn y hy]
            decide
          rw [n]
          simp [xe]
        refine ⟨_, rfl, _, rfl, (by show 2 ≤ sizeLine; decide), fun p5 hp5 => ?_⟩
        have s5 := same_new (o := .tup [.int e, .int (peopleOf ks)]) hp5
        have sA := s12.trans (s3.trans s4)
        exact (q _ (sA.trans s5)).2 e fx p5 (sA.free hp5) upd_same
      · have xe : xAt ks os e = false := Bool.eq_false_iff.mpr c
        refine ⟨_, _, _, _, _, rfl, s2.trans (s3.trans s4), fun y hy => ?_⟩
        rw [take_snoc he] at hy
        rcases List.mem_append.mp hy with m | m
        · exact hn y m
        · rw [List.mem_singleton.mp m]
          exact xe
    · rintro σ H2 ⟨x4, x5, x6, x7, x8, rfl, s2, hn⟩
      rw [List.length_map, List.take_length] at hn
      exact (q H2 (s1.trans s2)).1 (List.find?_eq_none.mpr fun e he => by rw [hn e he]; decide)
theorem ok_crossing {f : Addr} {fd : FuncData} (F : Fun K "crossing" "crossing" s_crossing f fd) (T : Txt K mg C CP) (d_kinds_of : Def P w K mg base "kinds_of" ["purse"] 3 (spKindsOf CP)) (d_first_crossing : Def P w K mg base "first_crossing" ["kinds", "others"] 3 spFirstX) : FnOk P w K mg base CX0 4 f fd ["first", "second"] (spCrossing CP) := by
  refine F.ok sc_crossing (fun vs H Q E h => ?_) (fun cdv A outer s H vs Q E hr h => ?_)
  · obtain ⟨r, r2, ks, os, rfl, _⟩ := h
    rfl
  · obtain ⟨r, r2, ks, os, rfl, R, R2, q⟩ := h
    refine ⟨_, (pss_cons (ps_par (i := 2) (j := 3) (by rfl) sc_crossing.nd rfl rfl (by decide) rfl rfl (pa_cons (pe_def d_kinds_of (hr.mono (by decide)) (by rfl) (pa_cons (pv 0) pa_nil)) (pa_cons (pe_def d_kinds_of (hr.mono (by decide)) (by rfl) (pa_cons (pv 1) pa_nil)) pa_nil)) (by rfl))
  (pss_one (ps_ret (pe_def d_first_crossing (hr.mono (by decide)) (by rfl) (pa_cons (pv 2) (pa_cons (pv 3) pa_nil)))))), ?_⟩
    refine ⟨_, rfl, r, ks, rfl, R, fun t H1 s1 hB g => ⟨_, rfl, r2, os, rfl, R2.same s1, fun u H2 s2 hC g' => ⟨_, _, rfl, ?_⟩⟩⟩
    have s12 := s1.trans s2
    exact ⟨_, rfl, _, rfl, t, u, ks, os, rfl, hB.same s2, g, hC, g', fun H3 s3 => ⟨fun n => (q H3 (s12.trans s3)).1 n, fun e he p hp h3 => (q H3 (s12.trans s3)).2 e he p (s12.free hp) h3⟩⟩
end

section
variable {P : Program} {w : World} {K : PySem.W.Frag} {mg : Str → Option Value} {base : Heap} {C CP : Addr}
theorem ok_amount_at {f : Addr} {fd : FuncData} (F : Fun K "amount_at" "amount_at" s_amount_at f fd) (T : Txt K mg C CP) (d_ends_of : Def P w K mg base "ends_of" ["kinds"] 1 spEndsOf) : FnOk P w K mg base CX0 2 f fd ["kinds", "place"] spAmountAt := by
  refine F.ok sc_amount_at (fun vs H Q E h => ?_) (fun cdv A outer s H vs Q E hr h => ?_)
  · obtain ⟨t, ks, x, rfl, _⟩ := h
    rfl
  · obtain ⟨t, ks, x, rfl, hB, g, x0, x1, q⟩ := h
    refine ⟨_, (pss_one (ps_ret (pe_ix ix_list (pe_lc (own := [("end", 4), ("amount", 2), ("count", 3)]) (g := (gTup K 2 (gCons (gTup K 2 (gCons (gName 2) (gCons (gName 3) gNil))) (gCons (gName 4) gNil))))  rfl sc_amount_at.nd (pi_zipM (by rfl) T.b_zip (pa_cons (pv 0) (pa_cons (pe_def d_ends_of (hr.mono (by decide)) (by rfl) (pa_cons (pv 0) pa_nil)) pa_nil))) (blkOk_by (N := ["kinds", "place", "amount", "count", "end"]) (sc := defScope s_amount_at) (by decide +kernel)) (fun _ _ _ _ _ => (pg_tup (by rfl) (pgs_cons (pg_tup (by rfl) (pgs_cons (pg_name (i := 2) sc_amount_at.nd rfl (Or.inl rfl)) (pgs_cons (pg_name (i := 3) sc_amount_at.nd rfl (Or.inl rfl)) pgs_nil))) (pgs_cons (pg_name (i := 4) sc_amount_at.nd rfl (Or.inl rfl)) pgs_nil)))) (fun _ _ _ _ _ => pts_one (pt_cmpR op_gt (pv 4) (pv 1) (nomark _))) (fun _ _ _ _ _ => (pv 2))) pe_int (fun _ _ => rfl)))), ?_⟩
    obtain ⟨rs, e1, eR⟩ := hB.rows
    have e2 := eR.len
    have el := ends_len ks
    refine ⟨_, rfl, _, rfl, t, ks, rfl, hB, g, fun L H1 s1 hL hL1 => ?_⟩
    refine ⟨t, L, rs.map V.ref, (endsK ks).map V.int, rfl, SqT.of (s1 _ _ e1), SqL.of hL1, fun D hD => lc_it (walk_zipM (K := K) (a := t) (b := L) (xs := rs.map V.ref) (ys := (endsK ks).map V.int) (by rw [List.length_map, List.length_map, e2, el])) (fun i H' => Same H1 H' ∧ H' D = some (.lst ((filtAm 0 (ks.take i) x).map V.int))) ⟨same_new hD, upd_same⟩ (fun i H' _ ⟨s2, _⟩ => ⟨SqT.of (s2 _ _ (s1 _ _ e1)), SqL.of (s2 _ _ hL1)⟩) ?_ ?_⟩
    · rintro i v H2 H3 hi ⟨s2, hd⟩ ⟨T1, xv, yv, rfl, hT1, rfl, hx, hy⟩
      obtain ⟨r', b, rfl, hr', hb⟩ := row_at e2 hx
      have il := (List.getElem?_eq_some_iff.mp hb).1
      have ye : yv = V.int (peopleOf (ks.take (i + 1))) := by
        rw [List.getElem?_map, ends_at ks il] at hy
        exact (Option.some.inj hy).symm
      subst ye
      have sT := same_new (o := .tup [V.ref r', V.int (peopleOf (ks.take (i + 1)))]) hT1
      have hbT := SqT.of (sT _ _ (s2 _ _ (s1 _ _ (eR.at_ i r' b hr' hb)))) (K := K)
      have nx : filtAm 0 (ks.take (i + 1)) x = filtAm 0 (ks.take i) x ++ (if peopleOf (ks.take (i + 1)) > x then [b.1] else []) := by
        rw [take_snoc hb, filtAm_snoc, people_snoc, Int.zero_add]
      refine ⟨T1, _, rfl, SqT.of upd_same, rfl, _, _, rfl, r', _, rfl, hbT, rfl, _, _, rfl, _, _, rfl, rfl, _, _, rfl, rfl, rfl, _, rfl, _, rfl, _, _, rfl, rfl, _, rfl, ite2 (fun c => ?_) (fun c => ?_)⟩
      · have c2 : peopleOf (ks.take (i + 1)) > x := of_decide_eq_true c
        refine ⟨_, rfl, _, sT _ _ hd, ?_, fun c' o e => ?_, ?_⟩
        · have : (filtAm 0 (ks.take i) x).length ≤ (ks.take i).length := filtAm_len _ _ _
          rw [List.length_take] at this
          have := g.len30
          rw [List.length_map, sizeLine_eq]
          omega
        · rw [upd_ne (ne_of_none e hD)]
          exact sT _ _ (s2 _ _ e)
        · rw [upd_same, nx, if_pos c2, List.map_append]
          rfl
      · have c2 : ¬ peopleOf (ks.take (i + 1)) > x := fun z => c (decide_eq_true z)
        refine ⟨s2.trans sT, ?_⟩
        rw [nx, if_neg c2, List.append_nil]
        exact sT _ _ hd
    · rintro H2 ⟨s2, hd⟩
      rw [List.length_map, e2, List.take_length] at hd
      obtain ⟨r, hr⟩ := amtAt_head g x0 x1
      rw [hr] at hd
      exact ⟨D, _, _, _, rfl, rfl, SqL.of hd, at0, q H2 (s1.trans s2)⟩
theorem ok_side_by_side {f : Addr} {fd : FuncData} (F : Fun K "side_by_side" "side_by_side" s_side_by_side f fd) (T : Txt K mg C CP) (d_ends_of : Def P w K mg base "ends_of" ["kinds"] 1 spEndsOf) (d_amount_at : Def P w K mg base "amount_at" ["kinds", "place"] 2 spAmountAt) : FnOk P w K mg base CX0 3 f fd ["kinds", "others"] spSides := by
  refine F.ok sc_side_by_side (fun vs H Q E h => ?_) (fun cdv A outer s H vs Q E hr h => ?_)
  · obtain ⟨t, u, ks, os, rfl, _⟩ := h
    rfl
  · obtain ⟨t, u, ks, os, rfl, hB, g, hC, g', hp, q⟩ := h
    refine ⟨_, (pss_cons (ps_set (i := 2) sc_side_by_side.nd rfl (Or.inl rfl) (pe_lst pa_nil))
  (pss_cons (ps_set (i := 3) sc_side_by_side.nd rfl (Or.inl rfl) pe_int)
  (pss_cons (ps_for PassesOwn.never rfl (pi_list (pe_callB (cr_sortedSet rfl) (by rfl) T.b_sorted (by decide +kernel) (pa_cons (pe_callTy (call_setL rfl) (by rfl) T.b_set (by decide +kernel) (pa_cons (pe_op op_cat (pe_def d_ends_of (hr.mono (by decide)) (by rfl) (pa_cons (pv 0) pa_nil)) (pe_def d_ends_of (hr.mono (by decide)) (by rfl) (pa_cons (pv 1) pa_nil))) pa_nil)) pa_nil))) (pg_name (i := 4) sc_side_by_side.nd rfl (Or.inl rfl))
    (pss_cons (ps_expr (pe_bm PySem.F.plainAttrs_list PySem.F.slot_list_append PySem.F.type_list_append mt_append (pv 2) (pa_cons (pe_tup (pa_cons (pe_def d_amount_at (hr.mono (by decide)) (by rfl) (pa_cons (pv 0) (pa_cons (pv 3) pa_nil))) (pa_cons (pe_def d_amount_at (hr.mono (by decide)) (by rfl) (pa_cons (pv 1) (pa_cons (pv 3) pa_nil))) (pa_cons (pe_op op_sub (pv 4) (pv 3)) pa_nil)))) pa_nil)))
  (pss_one (ps_set (i := 3) sc_side_by_side.nd rfl (Or.inl rfl) (pv 4)))))
  (pss_one (ps_ret (pv 2)))))), ?_⟩
    have l1 := g.len30
    have l2 := g'.len30
    have n1 := ends_len ks
    have n2 := ends_len os
    refine ⟨(by show 0 ≤ sizeLine; decide), fun p hp0 => ?_⟩
    have sp := same_new (o := .lst []) hp0
    refine ⟨_, rfl, t, ks, rfl, hB.same sp, g, fun L1 H1 s1 hL1 hL1' => ⟨_, rfl, u, os, rfl, (hC.same sp).same s1, g', fun L2 H2 s2 hL2 hL2' => ⟨L1, L2, _, _, rfl, rfl, s2 _ _ hL1', hL2', ?_, fun Lc hLc => ?_⟩⟩⟩
    · rw [List.length_map, List.length_map, n1, n2, sizeLine_eq]
      omega
    have sLc := same_new (o := .lst ((endsK ks).map V.int ++ (endsK os).map V.int)) hLc
    have eLc := upd_same (H := H2) (a := Lc) (o := .lst ((endsK ks).map V.int ++ (endsK os).map V.int))
    rw [← List.map_append] at sLc eLc ⊢
    generalize (upd H2 Lc (.lst ((endsK ks ++ endsK os).map V.int))) = H3 at sLc eLc ⊢
    refine ⟨Lc, _, rfl, SqL.of eLc, by rw [List.length_append, n1, n2]; omega, fun st c hst hc => ?_⟩
    rw [List.length_append, n1, n2] at hc
    refine ⟨st, _, c, rfl, upd_same, by omega, fun es pE es1 es2 es3 hpE => ?_⟩
    have mix : Mixed ks os es := ⟨es1, fun x => by rw [es2]; simp [List.mem_append]⟩
    have sSt := same_new (o := SetO w st (fun j => decide (j ∈ endsK ks ++ endsK os)) c) hst
    have sE := same_new (o := .lst (es.map V.int)) hpE
    have eE := upd_same (H := upd H3 st (SetO w st (fun j => decide (j ∈ endsK ks ++ endsK os)) c)) (a := pE) (o := .lst (es.map V.int))
    have sA := (s1.trans s2).trans (sLc.trans (sSt.trans sE))
    have hpA := sA _ _ (upd_same (H := H) (a := p) (o := .lst []))
    have sH := sp.trans sA
    have npE : p ≠ pE := ne_of_none ((s1.trans s2).trans (sLc.trans sSt) _ _ (upd_same (H := H) (a := p) (o := .lst []))) hpE
    refine ⟨pE, rfl, ⟨_, SqL.of eE⟩, for_list (K := K) (xs := es.map V.int) (fun i σ H' => ∃ (x4 : Option V) (gs : List Addr), σ = [some (.ref t), some (.ref u), some (.ref p), some (.int (lastD 0 (es.take i))), x4] ∧ Same H H' ∧ H' pE = some (.lst (es.map V.int)) ∧ H' p = some (.lst (gs.map V.ref)) ∧ RowsL tripT H' gs (sidesOf ks os 0 (es.take i)))
      ⟨none, [], rfl, sH, eE, hpA, RowsL.nil⟩ (fun i σ H' _ ⟨_, _, _, _, h, _⟩ => SqL.of h) ?_ ?_⟩
    · rintro i v σ H5 hi ⟨x4, gs, rfl, s5, hE5, hp5, hR5⟩
      obtain ⟨e, he, rfl⟩ : ∃ e, es[i]? = some e ∧ v = V.int e := by
        rw [List.getElem?_map] at hi
        cases h : es[i]? with
        | none => rw [h] at hi; cases hi
        | some e => rw [h] at hi; cases hi; exact ⟨e, rfl, rfl⟩
      obtain ⟨q0, q1, q2⟩ := mixed_place g g' hp mix he
      refine ⟨_, rfl, .inl ⟨rfl, _, SqL.of hp5⟩, _, rfl, _, rfl, t, ks, _, rfl, hB.same s5, g, q0, by omega, fun H6 s6 => ⟨_, rfl, _, rfl, u, os, _, rfl, (hC.same s5).same s6, g', q0, by omega, fun H7 s7 => ⟨_, rfl, _, rfl, _, _, rfl, rfl, (by show 3 ≤ sizeLine; decide), fun T1 hT1 => ?_⟩⟩⟩
      have sT := same_new (o := .tup (tripT (amtAt ks (lastD 0 (es.take i)), amtAt os (lastD 0 (es.take i)), e - lastD 0 (es.take i)))) hT1
      have eT := upd_same (H := H7) (a := T1) (o := .tup (tripT (amtAt ks (lastD 0 (es.take i)), amtAt os (lastD 0 (es.take i)), e - lastD 0 (es.take i))))
      have s57 := s6.trans (s7.trans sT)
      have hp8 := s57 _ _ hp5
      refine ⟨p, _, _, rfl, rfl, hp8, ?_, ?_⟩
      · have := hR5.len
        rw [sides_len, List.length_take] at this
        rw [List.length_map, sizeLine_eq]
        omega
      · have sA5 := s5.trans s57
        have hE8 := s57 _ _ hE5
        have hR8 := (hR5.same s57).snoc eT
        rw [← sides_snoc, ← take_snoc he] at hR8
        have e9 : lastD 0 (es.take (i + 1)) = e := by rw [take_snoc he, lastD_snoc]
        refine ⟨_, rfl, some (.int e), gs ++ [T1], by rw [e9]; rfl, fun b o h => ?_, ?_, ?_, RowsL.put hR8 hp8⟩
        · rw [upd_ne (ne_of_none h hp0)]
          exact sA5 _ _ h
        · rw [upd_ne (Ne.symm npE)]
          exact hE8
        · rw [upd_same, List.map_append]
          rfl
    · rintro σ H5 ⟨x4, gs, rfl, s5, hE5, hp5, hR5⟩
      rw [List.length_map, List.take_length] at hR5
      exact ⟨_, rfl, q p H5 es hp0 s5 mix (by omega) (hR5.lst hp5)⟩
theorem ok_gives_and_gets {f : Addr} {fd : FuncData} (F : Fun K "gives_and_gets" "gives_and_gets" s_gives_and_gets f fd) (T : Txt K mg C CP) (d_side_by_side : Def P w K mg base "side_by_side" ["kinds", "others"] 3 spSides) : FnOk P w K mg base CX0 4 f fd ["kinds", "others"] spGivesGets := by
  refine F.ok sc_gives_and_gets (fun vs H Q E h => ?_) (fun cdv A outer s H vs Q E hr h => ?_)
  · obtain ⟨t, u, ks, os, rfl, _⟩ := h
    rfl
  · obtain ⟨t, u, ks, os, rfl, hB, g, hC, g', hp, q⟩ := h
    refine ⟨_, (pss_cons (ps_set (i := 2) sc_gives_and_gets.nd rfl (Or.inl rfl) (pe_lst pa_nil))
  (pss_cons (ps_set (i := 3) sc_gives_and_gets.nd rfl (Or.inl rfl) (pe_def d_side_by_side (hr.mono (by decide)) (by rfl) (pa_cons (pv 0) (pa_cons (pv 1) pa_nil))))
  (pss_cons (ps_for PassesOwn.never rfl (pi_tup (pv 0)) (pg_tup (by rfl) (pgs_cons (pg_name (i := 4) sc_gives_and_gets.nd rfl (Or.inr rfl)) (pgs_cons (pg_name (i := 5) sc_gives_and_gets.nd rfl (Or.inl rfl)) pgs_nil)))
    (pss_cons (ps_setLc (i := 6) (own := [("here", 7), ("there", 8), ("many", 9)]) (g := (gTup K 3 (gCons (gName 7) (gCons (gName 8) (gCons (gName 9) gNil)))))  rfl sc_gives_and_gets.nd rfl rfl (sw_true rfl rfl rfl (by decide +kernel)) (pi_list (pv 3)) (blkOk_by (N := ["kinds", "others", "found", "places", "amount", "count", "apart", "here", "there", "many", "gives", "more"]) (sc := defScope s_gives_and_gets) (by decide +kernel)) (fun _ _ _ _ _ => (pg_tup (by rfl) (pgs_cons (pg_name (i := 7) sc_gives_and_gets.nd rfl (Or.inl rfl)) (pgs_cons (pg_name (i := 8) sc_gives_and_gets.nd rfl (Or.inl rfl)) (pgs_cons (pg_name (i := 9) sc_gives_and_gets.nd rfl (Or.inl rfl)) pgs_nil))))) (fun _ _ _ _ _ => pts_one (pt_cmpR op_eq (pv 7) (pv 4) (nomark _))) (fun _ _ _ _ _ => (pe_op op_mulW (pe_op op_sub (pv 4) (pv 8)) (pv 9))))
  (pss_cons (ps_set (i := 10) sc_gives_and_gets.nd rfl (Or.inl rfl) (pe_callB (cr_sum rfl) (by rfl) T.b_sum (by decide +kernel) (pa_cons (pe_lc (own := [("more", 11)]) (g := gName 11)  rfl sc_gives_and_gets.nd (pi_list (pv 6)) (blkOk_by (N := ["kinds", "others", "found", "places", "amount", "count", "apart", "here", "there", "many", "gives", "more"]) (sc := defScope s_gives_and_gets) (by decide +kernel)) (fun _ _ _ _ _ => pg_name (i := 11) sc_gives_and_gets.nd rfl (Or.inl rfl)) (fun _ _ _ _ _ => pts_one (pt_cmpR op_gt (pv 11) pe_int (nomark _))) (fun _ _ _ _ _ => (pv 11))) pa_nil)))
  (pss_one (ps_expr (pe_bm PySem.F.plainAttrs_list PySem.F.slot_list_append PySem.F.type_list_append mt_append (pv 2) (pa_cons (pe_tup (pa_cons (pv 4) (pa_cons (pv 10) (pa_cons (pe_op op_sub (pv 10) (pe_callB (cr_sum rfl) (by rfl) T.b_sum (by decide +kernel) (pa_cons (pv 6) pa_nil))) pa_nil)))) pa_nil)))))))
  (pss_one (ps_ret (pv 2)))))), ?_⟩
    obtain ⟨rs, e1, eR⟩ := hB.rows
    have e2 := eR.len
    refine ⟨(by show 0 ≤ sizeLine; decide), fun p hp0 => ?_⟩
    have sp := same_new (o := .lst []) hp0
    refine ⟨_, rfl, _, rfl, t, u, ks, os, rfl, hB.same sp, g, hC.same sp, g', hp, fun pS H2 es hpS s2 mix el hR => ?_⟩
    obtain ⟨ss, eS, hS⟩ := hR
    have hSR : RowsL tripT H2 ss (sidesOf ks os 0 es) := ⟨hS.1, hS.2⟩
    have npS : pS ≠ p := Ne.symm (ne_of_none (upd_same (H := H) (a := p) (o := .lst [])) hpS)
    have hp2 := s2 _ _ (upd_same (H := H) (a := p) (o := .lst []))
    have s02 := sp.trans s2
    have okS : ∀ s ∈ sidesOf ks os 0 es, SideOk ks os s := fun s hs => mixed_side g g' hp mix hs
    have sl := sides_len ks os es 0
    generalize hpl : sidesOf ks os 0 es = pl at hSR okS sl
    refine ⟨_, rfl, t, rfl, ⟨_, SqT.of (s02 _ _ e1)⟩, for_tup (K := K) (xs := rs.map V.ref) (fun i σ H' => ∃ (x4 x5 x6 x7 x8 x9 x10 x11 : Option V) (gs : List Addr), σ = [some (.ref t), some (.ref u), some (.ref p), some (.ref pS), x4, x5, x6, x7, x8, x9, x10, x11] ∧ Same H H' ∧ H' pS = some (.lst (ss.map V.ref)) ∧ RowsL tripT H' ss pl ∧ H' p = some (.lst (gs.map V.ref)) ∧ RowsL tripT H' gs ((ks.take i).map (giveRow pl)))
      ⟨none, none, none, none, none, none, none, none, [], rfl, s02, eS, hSR, hp2, RowsL.nil⟩ (fun i σ H' _ ⟨_, _, _, _, _, _, _, _, _, _, s3, _⟩ => same_t s3 (SqT.of e1)) ?_ ?_⟩
    · rintro i v σ H3 hi ⟨x4, x5, x6, x7, x8, x9, x10, x11, gs, rfl, s3, hS3, hSR3, hp3, hG3⟩
      obtain ⟨r', b, rfl, hr', hb⟩ := row_at e2 hi
      have hT := SqT.of (s3 _ _ (eR.at_ i r' b hr' hb)) (K := K)
      have bm : b.1 ∈ ks.map Prod.fst := List.mem_map_of_mem (List.mem_of_getElem? hb)
      refine ⟨r', _, rfl, hT, rfl, _, _, rfl, _, _, rfl, rfl, ?_⟩
      refine ⟨_, rfl, pS, rfl, ⟨_, SqL.of hS3⟩, fun D hD => lc_list (K := K) (g := gTup K 3 (gCons (gName 7) (gCons (gName 8) (gCons (gName 9) gNil)))) (xs := ss.map V.ref) (fun j H' => Same H3 H' ∧ H' D = some (.lst ((apartOf (pl.take j) b.1).map V.int))) ⟨same_new hD, upd_same⟩ (fun j H' _ ⟨s4, _⟩ => SqL.of (s4 _ _ hS3)) ?_ ?_⟩
      · rintro j v H4 hj ⟨s4, hd⟩
        obtain ⟨r2, z, rfl, hr2, hz⟩ := row_at hSR3.len hj
        have hT2 := SqT.of (s4 _ _ (hSR3.at_ j r2 z hr2 hz)) (K := K)
        have oz := okS z (List.mem_of_getElem? hz)
        obtain ⟨b1, b2⟩ := side_bits g g' oz bm
        have jl := (List.getElem?_eq_some_iff.mp hz).1
        refine ⟨r2, _, rfl, hT2, rfl, _, _, rfl, _, _, rfl, _, _, rfl, rfl, rfl, _, rfl, _, rfl, rfl, _, rfl, ite2 (fun c => ?_) (fun c => ?_)⟩
        · have c2 : z.1 = b.1 := V.int.inj (of_decide_eq_true c)
          refine ⟨_, rfl, _, rfl, _, _, rfl, rfl, _, rfl, _, _, rfl, rfl, wide_mul b1 b2 (by decide) (by decide) (by decide), _, hd, ?_, fun c' o e => ?_, ?_⟩
          · have := apart_len (pl.take j) b.1
            rw [List.length_take] at this
            rw [List.length_map, sizeLine_eq]
            omega
          · rw [upd_ne (ne_of_none e hD)]
            exact s4 _ _ e
          · rw [upd_same, take_snoc hz, apart_snoc, if_pos c2, List.map_append]
            rfl
        · have c2 : ¬ z.1 = b.1 := fun y => c (decide_eq_true (congrArg V.int y))
          refine ⟨s4, ?_⟩
          rw [take_snoc hz, apart_snoc, if_neg c2, List.append_nil]
          exact hd
      rintro H4 ⟨s4, hd⟩
      rw [List.length_map, hSR3.len, List.take_length] at hd
      have al := apart_len pl b.1
      refine ⟨_, rfl, D, rfl, ⟨_, SqL.of hd⟩, fun D2 hD2 => lc_list (K := K) (g := gName 11) (xs := (apartOf pl b.1).map V.int) (fun j H' => Same H4 H' ∧ H' D2 = some (.lst ((((apartOf pl b.1).take j).filter fun x => decide (x > 0)).map V.int))) ⟨same_new hD2, upd_same⟩ (fun j H' _ ⟨s5, _⟩ => SqL.of (s5 _ _ hd)) ?_ ?_⟩
      · rintro j v H5 hj ⟨s5, hd2⟩
        obtain ⟨e, he, rfl⟩ : ∃ e, (apartOf pl b.1)[j]? = some e ∧ v = V.int e := by
          rw [List.getElem?_map] at hj
          cases h : (apartOf pl b.1)[j]? with
          | none => rw [h] at hj; cases hj
          | some e => rw [h] at hj; cases hj; exact ⟨e, rfl, rfl⟩
        refine ⟨rfl, _, rfl, _, _, rfl, rfl, _, rfl, ite2 (fun c => ?_) (fun c => ?_)⟩
        · have c2 : decide (e > 0) = true := c
          refine ⟨_, rfl, _, hd2, ?_, fun c' o h => ?_, ?_⟩
          · have := List.length_filter_le (fun x => decide (x > 0)) ((apartOf pl b.1).take j)
            rw [List.length_take] at this
            rw [List.length_map, sizeLine_eq]
            omega
          · rw [upd_ne (ne_of_none h hD2)]
            exact s5 _ _ h
          · rw [upd_same, take_snoc he, List.filter_append, List.map_append, filt_one (of_decide_eq_true c2)]
            rfl
        · refine ⟨s5, ?_⟩
          rw [take_snoc he, List.filter_append, filt_none (fun z => c (decide_eq_true z)), List.append_nil]
          exact hd2
      rintro H5 ⟨s5, hd2⟩
      rw [List.length_map, List.take_length] at hd2
      have s35 := s4.trans s5
      refine ⟨D2, _, rfl, SqL.of hd2, ?_⟩
      refine ⟨_, rfl, .inl ⟨rfl, _, SqL.of (s35 _ _ hp3)⟩, _, rfl, _, rfl, _, rfl, _, rfl, D, _, rfl, SqL.of (s5 _ _ hd), _, _, rfl, rfl, (by show 3 ≤ sizeLine; decide), fun T1 hT1 => ?_⟩
      have sT := same_new (o := .tup (tripT (giveRow pl b))) hT1
      have eT := upd_same (H := H5) (a := T1) (o := .tup (tripT (giveRow pl b)))
      have s36 := s35.trans sT
      have hp6 := s36 _ _ hp3
      have hG6 := (hG3.same s36).snoc eT
      have es : (ks.take i).map (giveRow pl) ++ [giveRow pl b] = (ks.take (i + 1)).map (giveRow pl) := by rw [take_snoc hb, List.map_append]; rfl
      rw [es] at hG6
      refine ⟨p, _, _, rfl, rfl, hp6, ?_, _, _, _, _, _, _, _, _, gs ++ [T1], rfl, fun c o h => ?_, ?_, RowsL.put (hSR3.same s36) hp6, ?_, RowsL.put hG6 hp6⟩
      · have := hG3.len
        have l30 := g.len30
        rw [List.length_map, List.length_take] at this
        rw [List.length_map, sizeLine_eq]
        omega
      · rw [upd_ne (ne_of_none h hp0)]
        exact s36 _ _ (s3 _ _ h)
      · rw [upd_ne npS]
        exact s36 _ _ hS3
      · rw [upd_same, List.map_append]
        rfl
    · rintro σ H3 ⟨x4, x5, x6, x7, x8, x9, x10, x11, gs, rfl, s3, hS3, hSR3, hp3, hG3⟩
      rw [List.length_map, e2, List.take_length, ← hpl] at hG3
      exact ⟨_, rfl, q p H3 es hp0 s3 mix el (hG3.lst hp3)⟩
theorem ok_least_gifts {f : Addr} {fd : FuncData} (F : Fun K "least_gifts" "least_gifts" s_least_gifts f fd) (T : Txt K mg C CP) (d_ends_of : Def P w K mg base "ends_of" ["kinds"] 1 spEndsOf) (d_total_of : Def P w K mg base "total_of" ["kinds"] 1 spTotalOf) (d_first_crossing : Def P w K mg base "first_crossing" ["kinds", "others"] 3 spFirstX) (d_gives_and_gets : Def P w K mg base "gives_and_gets" ["kinds", "others"] 4 spGivesGets) : FnOk P w K mg base CX0 5 f fd ["kinds", "others"] spLeastGifts := by
  refine F.ok sc_least_gifts (fun vs H Q E h => ?_) (fun cdv A outer s H vs Q E hr h => ?_)
  · obtain ⟨t, u, ks, os, rfl, _⟩ := h
    rfl
  · obtain ⟨t, u, ks, os, rfl, hB, g, hC, g', q⟩ := h
    refine ⟨_, (pss_cons (ps_if (PW.pt (pw_or (pt_cmpR op_ne (pe_ix ix_list (pe_def d_ends_of (hr.mono (by decide)) (by rfl) (pa_cons (pv 0) pa_nil)) (pe_un un_neg pe_int) (fun _ _ => rfl)) (pe_ix ix_list (pe_def d_ends_of (hr.mono (by decide)) (by rfl) (pa_cons (pv 1) pa_nil)) (pe_un un_neg pe_int) (fun _ _ => rfl)) (nomark _)) (pw_or1 (pt_cmpR op_ne (pe_def d_total_of (hr.mono (by decide)) (by rfl) (pa_cons (pv 0) pa_nil)) (pe_def d_total_of (hr.mono (by decide)) (by rfl) (pa_cons (pv 1) pa_nil)) (nomark _)))))
    (pss_one (ps_ret pe_non))
    pss_nil)
  (pss_cons (ps_if (pt_cmpR op_notN (pe_def d_first_crossing (hr.mono (by decide)) (by rfl) (pa_cons (pv 1) (pa_cons (pv 0) pa_nil))) pe_non (nomark _))
    (pss_one (ps_ret pe_non))
    pss_nil)
  (pss_one (ps_ret (pe_callB (cr_sum rfl) (by rfl) T.b_sum (by decide +kernel) (pa_cons (pe_lc (own := [("amount", 2), ("gives", 3), ("gets", 4)]) (g := (gTup K 3 (gCons (gName 2) (gCons (gName 3) (gCons (gName 4) gNil))))) (tt := tYes) rfl sc_least_gifts.nd (pi_list (pe_def d_gives_and_gets (hr.mono (by decide)) (by rfl) (pa_cons (pv 0) (pa_cons (pv 1) pa_nil)))) (blkOk_by (N := ["kinds", "others", "amount", "gives", "gets"]) (sc := defScope s_least_gifts) (by decide +kernel)) (fun _ _ _ _ _ => (pg_tup (by rfl) (pgs_cons (pg_name (i := 2) sc_least_gifts.nd rfl (Or.inl rfl)) (pgs_cons (pg_name (i := 3) sc_least_gifts.nd rfl (Or.inl rfl)) (pgs_cons (pg_name (i := 4) sc_least_gifts.nd rfl (Or.inl rfl)) pgs_nil))))) (fun _ _ _ _ _ => pts_nil) (fun _ _ _ _ _ => (pv 3))) pa_nil)))))), ?_⟩
    have lst : ((endsK ks).map V.int).getLast? = some (V.int (peopleOf ks)) := by rw [List.getLast?_map, ends_last g]; rfl
    have lst2 : ((endsK os).map V.int).getLast? = some (V.int (peopleOf os)) := by rw [List.getLast?_map, ends_last g']; rfl
    refine ⟨_, rfl, t, ks, rfl, hB, g, fun L H1 s1 hL hL1 => ⟨1, rfl, L, _, _, _, rfl, rfl, SqL.of hL1, atLast lst, _, rfl, u, os, rfl, hC.same s1, g', fun L2 H2 s2 hL2 hL21 => ⟨1, rfl, L2, _, _, _, rfl, rfl, SqL.of hL21, atLast lst2, rfl, _, rfl, ite2 (fun c => ?_) (fun c => ?_)⟩⟩⟩
    · have n : ¬ peopleOf ks = peopleOf os := ne_of_dec c
      refine iteT ?_
      have := q H2 (s1.trans s2)
      unfold giftOf at this
      rw [if_neg (fun h => n h.1)] at this
      exact this
    have hp : peopleOf ks = peopleOf os := eq_of_dec c
    have s12 := s1.trans s2
    refine ⟨_, rfl, t, ks, rfl, hB.same s12, g, fun H3 s3 => ⟨_, rfl, u, os, rfl, (hC.same s12).same s3, g', fun H4 s4 => ⟨rfl, _, rfl, ite2 (fun c => ?_) (fun c => ?_)⟩⟩⟩
    · have n : ¬ totalOf ks = totalOf os := ne_of_dec c
      have := q H4 (s12.trans (s3.trans s4))
      unfold giftOf at this
      rw [if_neg (fun h => n h.2.1)] at this
      exact this
    have ht : totalOf ks = totalOf os := eq_of_dec c
    have s14 := s12.trans (s3.trans s4)
    refine ⟨_, rfl, _, rfl, u, t, os, ks, rfl, hC.same s14, g', hB.same s14, g, fun H5 s5 => ⟨fun n => ?_, fun e he p hp0 h5 => ?_⟩⟩
    · have s15 := s14.trans s5
      refine ⟨rfl, _, rfl, ite2 (fun k => absurd k (by simp)) (fun _ => ?_)⟩
      refine ⟨_, rfl, _, rfl, t, u, ks, os, rfl, hB.same s15, g, hC.same s15, g', hp, fun pG H6 es hpG s6 mix el hR => ?_⟩
      obtain ⟨gs, eG, hG⟩ := hR
      have hGR : RowsL tripT H6 gs (ks.map (giveRow (sidesOf ks os 0 es))) := ⟨hG.1, hG.2⟩
      have gsum' := gifts_sum g g' hp mix
      have rl : (ks.map (giveRow (sidesOf ks os 0 es))).length = ks.length := List.length_map ..
      have l30 := g.len30
      generalize (ks.map (giveRow (sidesOf ks os 0 es))) = rows at hGR gsum' rl
      refine ⟨pG, rfl, ⟨_, SqL.of eG⟩, fun D hD => lc_list (K := K) (g := gTup K 3 (gCons (gName 2) (gCons (gName 3) (gCons (gName 4) gNil)))) (tt := tYes) (xs := gs.map V.ref) (fun j H' => Same H6 H' ∧ H' D = some (.lst (((rows.take j).map fun r => r.2.1).map V.int))) ⟨same_new hD, upd_same⟩ (fun j H' _ ⟨s7, _⟩ => SqL.of (s7 _ _ eG)) ?_ ?_⟩
      · rintro j v H7 hj ⟨s7, hd⟩
        obtain ⟨r2, z, rfl, hr2, hz⟩ := row_at hGR.len hj
        have hT2 := SqT.of (s7 _ _ (hGR.at_ j r2 z hr2 hz)) (K := K)
        have jl := (List.getElem?_eq_some_iff.mp hz).1
        refine ⟨r2, _, rfl, hT2, rfl, _, _, rfl, _, _, rfl, _, _, rfl, rfl, rfl, _, rfl, _, hd, ?_, fun c' o e => ?_, ?_⟩
        · rw [List.length_map, List.length_map, List.length_take, sizeLine_eq]
          omega
        · rw [upd_ne (ne_of_none e hD)]
          exact s7 _ _ e
        · rw [upd_same, take_snoc hz, List.map_append, List.map_append]
          rfl
      · rintro H7 ⟨s7, hd⟩
        rw [List.length_map, hGR.len, List.take_length] at hd
        refine ⟨D, _, rfl, SqL.of hd, ?_⟩
        have := q H7 (s15.trans (s6.trans s7))
        unfold giftOf at this
        rw [if_pos ⟨hp, ht, n⟩] at this
        rw [gsum']
        exact this
    · refine ⟨rfl, _, rfl, ite2 (fun _ => ?_) (fun c => absurd rfl c)⟩
      have := q H5 (s14.trans s5)
      unfold giftOf at this
      rw [if_neg (fun h => by rw [he] at h; cases h.2.2)] at this
      exact this
theorem ok_gifts {f : Addr} {fd : FuncData} (F : Fun K "gifts" "gifts" s_gifts f fd) (T : Txt K mg C CP) (d_kinds_of : Def P w K mg base "kinds_of" ["purse"] 3 (spKindsOf CP)) (d_least_gifts : Def P w K mg base "least_gifts" ["kinds", "others"] 5 spLeastGifts) : FnOk P w K mg base CX0 6 f fd ["first", "second"] (spGifts CP) := by
  refine F.ok sc_gifts (fun vs H Q E h => ?_) (fun cdv A outer s H vs Q E hr h => ?_)
  · obtain ⟨r, r2, ks, os, rfl, _⟩ := h
    rfl
  · obtain ⟨r, r2, ks, os, rfl, R, R2, q⟩ := h
    refine ⟨_, (pss_cons (ps_par (i := 2) (j := 3) (by rfl) sc_gifts.nd rfl rfl (by decide) rfl rfl (pa_cons (pe_def d_kinds_of (hr.mono (by decide)) (by rfl) (pa_cons (pv 0) pa_nil)) (pa_cons (pe_def d_kinds_of (hr.mono (by decide)) (by rfl) (pa_cons (pv 1) pa_nil)) pa_nil)) (by rfl))
  (pss_one (ps_ret (pe_def d_least_gifts (hr.mono (by decide)) (by rfl) (pa_cons (pv 2) (pa_cons (pv 3) pa_nil)))))), ?_⟩
    refine ⟨_, rfl, r, ks, rfl, R, fun t H1 s1 hB g => ⟨_, rfl, r2, os, rfl, R2.same s1, fun u H2 s2 hC g' => ⟨_, _, rfl, ?_⟩⟩⟩
    have s12 := s1.trans s2
    exact ⟨_, rfl, _, rfl, t, u, ks, os, rfl, hB.same s2, g, hC, g', fun H3 s3 => q H3 (s12.trans s3)⟩
end

section
variable {P : Program} {w : World} {K : PySem.W.Frag} {mg : Str → Option Value} {base : Heap} {C CP : Addr}
theorem ok_is_tuple {f : Addr} {fd : FuncData} (F : Fun K "is_tuple" "is_tuple" s_is_tuple f fd) (T : Txt K mg C CP) : FnOk P w K mg base CX0 1 f fd ["value"] (spIsTy K "tuple") := by
  refine F.ok sc_is_tuple (fun vs H Q E h => ?_) (fun cdv A outer s H vs Q E hr h => ?_)
  · obtain ⟨v, T', rfl, _⟩ := h
    rfl
  · obtain ⟨v, T', rfl, t, q⟩ := h
    refine ⟨_, (pss_one (ps_ret (pe_cmpR op_eqTy (pe_callTy call_type1 (by rfl) T.b_type (by decide +kernel) (pa_cons (pv 0) pa_nil)) (pe_bltn (v := .ty "tuple") (by rfl) T.b_tuple (by decide +kernel) rfl) (nomark _)))), ?_⟩
    exact ⟨_, rfl, _, _, rfl, t, _, _, rfl, rfl, TyB.mem t, by decide, q⟩
theorem ok_is_text {f : Addr} {fd : FuncData} (F : Fun K "is_text" "is_text" s_is_text f fd) (T : Txt K mg C CP) : FnOk P w K mg base CX0 1 f fd ["value"] (spIsTy K "str") := by
  refine F.ok sc_is_text (fun vs H Q E h => ?_) (fun cdv A outer s H vs Q E hr h => ?_)
  · obtain ⟨v, T', rfl, _⟩ := h
    rfl
  · obtain ⟨v, T', rfl, t, q⟩ := h
    refine ⟨_, (pss_one (ps_ret (pe_cmpR op_eqTy (pe_callTy call_type1 (by rfl) T.b_type (by decide +kernel) (pa_cons (pv 0) pa_nil)) (pe_bltn (v := .ty "str") (by rfl) T.b_str (by decide +kernel) rfl) (nomark _)))), ?_⟩
    exact ⟨_, rfl, _, _, rfl, t, _, _, rfl, rfl, TyB.mem t, by decide, q⟩
theorem ok_is_integer_checker {f : Addr} {fd : FuncData} (F : Fun K "is_integer" "is_integer" s_is_integer_checker f fd) (T : Txt K mg C CP) : FnOk P w K mg base CX0 1 f fd ["value"] (spIsTy K "int") := by
  refine F.ok sc_is_integer_checker (fun vs H Q E h => ?_) (fun cdv A outer s H vs Q E hr h => ?_)
  · obtain ⟨v, T', rfl, _⟩ := h
    rfl
  · obtain ⟨v, T', rfl, t, q⟩ := h
    refine ⟨_, (pss_one (ps_ret (pe_cmpR op_eqTy (pe_callTy call_type1 (by rfl) T.b_type (by decide +kernel) (pa_cons (pv 0) pa_nil)) (pe_bltn (v := .ty "int") (by rfl) T.b_int (by decide +kernel) rfl) (nomark _)))), ?_⟩
    exact ⟨_, rfl, _, _, rfl, t, _, _, rfl, rfl, TyB.mem t, by decide, q⟩
theorem ok_told_kinds {f : Addr} {fd : FuncData} (F : Fun K "told_kinds" "told_kinds" s_told_kinds f fd) (T : Txt K mg C CP) (d_is_text : Def P w K mg base "is_text" ["value"] 1 (spIsTy K "str"))
    (d_kinds_with : Def P w K mg base "kinds_with" ["text"] 5 spKindsWith) : FnOk P w K mg base CX0 6 f fd ["text"] spToldK := by
  refine F.ok sc_told_kinds (fun vs H Q E h => ?_) (fun cdv A outer s H vs Q E hr h => ?_)
  · obtain ⟨ks, rfl, _⟩ := h
    rfl
  · obtain ⟨ks, rfl, g, q⟩ := h
    refine ⟨_, (pss_one (ps_ret (pe_ifExp (pt_val (pe_def d_is_text (hr.mono (by decide)) (by rfl) (pa_cons (pv 0) pa_nil))) (pe_def d_kinds_with (hr.mono (by decide)) (by rfl) (pa_cons (pv 0) pa_nil)) pe_non))), ?_⟩
    exact ⟨_, rfl, _, _, rfl, .str _, _, rfl, ite2 (fun _ => ⟨_, rfl, ks, rfl, g, q⟩) (fun z => absurd (by decide) z)⟩
theorem ok_told_purses {f : Addr} {fd : FuncData} (F : Fun K "told_purses" "told_purses" s_told_purses f fd) (T : Txt K mg C CP) (d_told_kinds : Def P w K mg base "told_kinds" ["text"] 6 spToldK) : FnOk P w K mg base CX0 7 f fd ["texts"] (spToldP K) := by
  refine F.ok sc_told_purses (fun vs H Q E h => ?_) (fun cdv A outer s H vs Q E hr h => ?_)
  · obtain ⟨t, ks, ms, rfl, _⟩ := h
    rfl
  · obtain ⟨t, ks, ms, rfl, hT, g, g', q⟩ := h
    refine ⟨_, (pss_cons (ps_setLc (i := 1) (own := [("text", 2)]) (g := gName 2) (tt := tYes) rfl sc_told_purses.nd rfl rfl (sw_true rfl rfl rfl (by decide +kernel)) (pi_tup (pv 0)) (blkOk_by (N := ["texts", "purses", "text"]) (sc := defScope s_told_purses) (by decide +kernel)) (fun _ _ _ _ _ => pg_name (i := 2) sc_told_purses.nd rfl (Or.inl rfl)) (fun _ _ _ _ _ => pts_nil) (fun _ _ _ _ _ => (pe_def d_told_kinds (hr.mono (by decide)) (by rfl) (pa_cons (pv 2) pa_nil))))
  (pss_one (ps_ret (pe_ifExp (PW.pt (pw_or (pt_cmpR (op_inD (un65 hr)) pe_non (pv 1) (by with_unfolding_all rfl)) (pw_or1 (pt_cmpR op_ne (pe_callB call_len_seq (by rfl) T.b_len (by decide +kernel) (pa_cons (pv 1) pa_nil)) pe_int (nomark _))))) pe_non (pv 1))))), ?_⟩
    refine ⟨_, rfl, t, rfl, ⟨_, hT⟩, fun D hD => lc_tup (K := K) (xs := [.str (sheetOf ks), .str (sheetOf ms)]) (fun i H' => ∃ rs : List Addr, rs.length = i ∧ Same H H' ∧ H' D = some (.lst (rs.map V.ref)) ∧ ∀ (j : Nat) r b, rs[j]? = some r → [ks, ms][j]? = some b → KindsAt H' r b)
      ⟨[], rfl, same_new hD, upd_same, fun j r b h => by cases h⟩ (fun i H' _ ⟨_, _, s1, _⟩ => same_t s1 hT) ?_ ?_⟩
    · rintro i v H1 hi ⟨rs, lr, s1, hd, ht⟩
      obtain ⟨b, hb, rfl, gb⟩ : ∃ b, [ks, ms][i]? = some b ∧ v = .str (sheetOf b) ∧ GoodK b := by
        match i, hi with
        | 0, hi => exact ⟨ks, rfl, (Option.some.inj hi).symm, g⟩
        | 1, hi => exact ⟨ms, rfl, (Option.some.inj hi).symm, g'⟩
        | i + 2, hi => cases hi
      have il := (List.getElem?_eq_some_iff.mp hb).1
      have il2 : i < 2 := il
      refine ⟨rfl, _, rfl, b, rfl, gb, fun r H2 s2 hB => ⟨_, s2 _ _ hd, ?_, rs ++ [r], ?_, fun c o e => ?_, ?_, fun j r' b' h1 h2 => ?_⟩⟩
      · rw [List.length_map, sizeLine_eq]
        omega
      · rw [List.length_append, lr]
        rfl
      · rw [upd_ne (ne_of_none e hD)]
        exact s2 _ _ (s1 _ _ e)
      · rw [upd_same, List.map_append]
        rfl
      · rcases snoc_get h1 with ⟨lj, h1⟩ | ⟨ej, rfl⟩
        · exact ((ht j r' b' h1 h2).same s2).put (s2 _ _ hd)
        · rw [lr] at ej
          subst ej
          rw [hb] at h2
          cases h2
          exact hB.put (s2 _ _ hd)
    · rintro H1 ⟨rs, lr, s1, hd, ht⟩
      obtain ⟨a, b, rfl⟩ : ∃ a b, rs = [a, b] := by
        match rs, lr with
        | [a, b], _ => exact ⟨a, b, rfl⟩
      have hA := ht 0 a ks rfl rfl
      have hM := ht 1 b ms rfl rfl
      have dl : Dp K H1 (.ref D) (.list [kindsD ks, kindsD ms]) := .lst (SqL.of hd) (.cons (kinds_dp hA) (.cons (kinds_dp hM) .nil))
      have sh : SeqAt.shaped (.list [kindsD ks, kindsD ms]) = true := by
        have h1 := (Bool.and_eq_true_iff.mp (shaped_kinds ks)).1
        have h2 := (Bool.and_eq_true_iff.mp (shaped_kinds ms)).1
        have d1 : (kindsD ks).depth ≤ 5 := by
          have := depth_kinds ks
          simp only [kindsD, PyData.depth]
          omega
        have d2 : (kindsD ms).depth ≤ 5 := by
          have := depth_kinds ms
          simp only [kindsD, PyData.depth]
          omega
        unfold SeqAt.shaped
        rw [Bool.and_eq_true]
        refine ⟨?_, decide_eq_true ?_⟩
        · simp only [PyData.canLay0, PyData.canLayAll0, h1, h2, Bool.and_true]
        · simp only [PyData.depth, PyData.depthAll]
          omega
      have na : ([kindsD ks, kindsD ms].any fun z => z.eqv PyData.none) = false := by simp [kindsD, PyData.eqv]
      refine ⟨_, rfl, .none, _, .non, dl, by decide, sh, ?_⟩
      rw [na]
      refine ⟨_, rfl, iteF ⟨_, rfl, D, _, rfl, .inl (SqL.of hd), rfl, _, rfl, ite2 (fun z => absurd z (by simp)) (fun _ => ⟨_, rfl, q D a b H1 s1 hD hd hA hM⟩)⟩⟩
theorem ok_are_integers {f : Addr} {fd : FuncData} (F : Fun K "are_integers" "are_integers" s_are_integers f fd) (T : Txt K mg C CP) (d_is_tuple : Def P w K mg base "is_tuple" ["value"] 1 (spIsTy K "tuple"))
    (d_is_integer_checker : Def P w K mg base "is_integer_checker" ["value"] 1 (spIsTy K "int")) : FnOk P w K mg base CX0 2 f fd ["value", "many"] (spAreInts K) := by
  refine F.ok sc_are_integers (fun vs H Q E h => ?_) (fun cdv A outer s H vs Q E hr h => ?_)
  · obtain ⟨v, many, o, rfl, _⟩ := h
    rfl
  · obtain ⟨v, many, o, rfl, hP, q⟩ := h
    refine ⟨_, (pss_one (ps_ret (pe_and (pe_def d_is_tuple (hr.mono (by decide)) (by rfl) (pa_cons (pv 0) pa_nil)) (pe_and (pe_cmpR op_eq (pe_callB call_len_seq (by rfl) T.b_len (by decide +kernel) (pa_cons (pv 0) pa_nil)) (pv 1) (nomark _)) (pe_one (pe_callB (cr_all rfl) (by rfl) T.b_all (by decide +kernel) (pa_cons (pe_lc (own := [("each", 2)]) (g := gName 2) (tt := tYes) rfl sc_are_integers.nd (pi_tup (pv 0)) (blkOk_by (N := ["value", "many", "each"]) (sc := defScope s_are_integers) (by decide +kernel)) (fun _ _ _ _ _ => pg_name (i := 2) sc_are_integers.nd rfl (Or.inl rfl)) (fun _ _ _ _ _ => pts_nil) (fun _ _ _ _ _ => (pe_def d_is_integer_checker (hr.mono (by decide)) (by rfl) (pa_cons (pv 2) pa_nil)))) pa_nil))))))), ?_⟩
    rcases hP.split with ⟨ho, T', ht, n⟩ | ⟨a, xs, rfl, h, l, ty, ho⟩
    · subst ho
      refine ⟨_, rfl, _, _, rfl, ht, ?_⟩
      rw [decide_eq_false n]
      exact ⟨_, rfl, iteF (q H (Same.refl _))⟩
    · refine ⟨_, rfl, _, _, rfl, .tup h, _, rfl, ite2 (fun _ => ?_) (fun z => absurd (by decide) z)⟩
      refine ⟨_, rfl, a, xs, rfl, .inr h, _, rfl, rfl, _, rfl, ite2 (fun c => ?_) (fun c => ?_)⟩
      · have cl : ((xs.length : Nat) : Int) = many := by simpa using c
        refine ⟨_, rfl, a, rfl, ⟨_, h⟩, fun D hD => lc_tup (K := K) (xs := xs) (fun i H' => ∃ bs : List Bool, bs.length = i ∧ Same H H' ∧ H' D = some (.lst (bs.map V.bl)) ∧ ∀ (j : Nat) b x, bs[j]? = some b → xs[j]? = some x → (b = true ↔ ¬ ∃ T, TyB K H x T ∧ T ≠ "int"))
          ⟨[], rfl, same_new hD, upd_same, fun j b x h => by cases h⟩ (fun i H' _ ⟨_, _, s1, _⟩ => same_t s1 h) ?_ ?_⟩
        · rintro i v H1 hi ⟨bs, lb, s1, hd, hb⟩
          have il := (List.getElem?_eq_some_iff.mp hi).1
          obtain ⟨T1, t1, e1⟩ : ∃ T1, TyB K H v T1 ∧ (decide (T1 = "int") = true ↔ ¬ ∃ T, TyB K H v T ∧ T ≠ "int") := by
            by_cases hx : ∃ T, TyB K H v T ∧ T ≠ "int"
            · obtain ⟨T1, t1, n1⟩ := hx
              exact ⟨T1, t1, by simp [n1]; exact ⟨T1, t1, n1⟩⟩
            · obtain ⟨T1, t1⟩ := ty v (List.mem_of_getElem? hi)
              have e : T1 = "int" := Decidable.byContradiction fun z => hx ⟨T1, t1, z⟩
              exact ⟨T1, t1, by simp only [e, decide_true, true_iff]; exact hx⟩
          refine ⟨rfl, _, rfl, _, _, rfl, tyb_same s1 t1, _, hd, ?_, bs ++ [decide (T1 = "int")], ?_, fun c o e => ?_, ?_, fun j b x h1 h2 => ?_⟩
          · rw [List.length_map, sizeLine_eq]
            omega
          · rw [List.length_append, lb]
            rfl
          · rw [upd_ne (ne_of_none e hD)]
            exact s1 _ _ e
          · rw [upd_same, List.map_append]
            rfl
          · rcases snoc_get h1 with ⟨lj, h1⟩ | ⟨ej, rfl⟩
            · exact hb j b x h1 h2
            · rw [lb] at ej
              subst ej
              rw [hi] at h2
              cases h2
              exact e1
        · rintro H1 ⟨bs, lb, s1, hd, hb⟩
          refine ⟨D, bs, rfl, SqL.of hd, ?_⟩
          have e : bs.all id = intsAns o many := by
            rcases ho with ⟨ns, rfl, rfl, hn⟩ | ⟨rfl, x, hx, hT⟩
            · have e1 : intsAns (some ns) many = true := decide_eq_true (by rw [List.length_map] at cl; exact cl)
              rw [e1, List.all_eq_true]
              intro b hb2
              obtain ⟨j, hj⟩ := List.mem_iff_getElem?.mp hb2
              have jl := (List.getElem?_eq_some_iff.mp hj).1
              have hx := List.getElem?_eq_getElem (l := ns.map V.int) (i := j) (by omega)
              exact (hb j b _ hj hx).mpr (hn _ (List.mem_of_getElem? hx))
            · show bs.all id = false
              rw [List.all_eq_false]
              obtain ⟨j, hj⟩ := List.mem_iff_getElem?.mp hx
              have jl := (List.getElem?_eq_some_iff.mp hj).1
              have hb1 := List.getElem?_eq_getElem (l := bs) (i := j) (by omega)
              refine ⟨_, List.mem_of_getElem? hb1, fun z => ?_⟩
              exact (hb j _ x hb1 hj).mp z hT
          rw [e]
          exact q H1 s1
      · have e : intsAns o many = false := by
          rcases ho with ⟨ns, rfl, rfl, hn⟩ | ⟨rfl, _⟩
          · refine decide_eq_false fun z => c ?_
            simp [z]
          · rfl
        rw [e] at q
        exact q H (Same.refl _)
theorem ok_accepts_uneven {f : Addr} {fd : FuncData} (F : Fun K "accepts_uneven" "accepts_uneven" s_accepts_uneven f fd) (T : Txt K mg C CP) (d_told_purses : Def P w K mg base "told_purses" ["texts"] 7 (spToldP K))
    (d_are_integers : Def P w K mg base "are_integers" ["value", "many"] 2 (spAreInts K)) (d_lowest_share : Def P w K mg base "lowest_share" ["kinds", "part", "whole"] 2 spShare) : FnOk P w K mg base CX0 8 f fd ["told", "certificate"] (spUneven K) := by
  refine F.ok sc_accepts_uneven (fun vs H Q E h => ?_) (fun cdv A outer s H vs Q E hr h => ?_)
  · obtain ⟨t, v, ks, ms, o, rfl, _⟩ := h
    rfl
  · obtain ⟨t, v, ks, ms, o, rfl, hT, g, g', hP, hb, q⟩ := h
    refine ⟨_, (pss_cons (ps_set (i := 2) sc_accepts_uneven.nd rfl (Or.inl rfl) (pe_def d_told_purses (hr.mono (by decide)) (by rfl) (pa_cons (pv 0) pa_nil)))
  (pss_cons (ps_if (PW.pt (pw_or (pt_cmpR op_isN (pv 2) pe_non (nomark _)) (pw_or1 (pt_not (pt_val (pe_def d_are_integers (hr.mono (by decide)) (by rfl) (pa_cons (pv 1) (pa_cons pe_int pa_nil))))))))
    (pss_one (ps_ret pe_bl))
    pss_nil)
  (pss_cons (ps_asg (pv 1) (pg_tup (by rfl) (pgs_cons (pg_name (i := 3) sc_accepts_uneven.nd rfl (Or.inl rfl)) (pgs_cons (pg_name (i := 4) sc_accepts_uneven.nd rfl (Or.inl rfl)) pgs_nil))))
  (pss_cons (ps_if (PW.pt (pw_or (pt_not (pt_chain op_le op_le pe_int (pv 3) (pv 4))) (pw_or1 (pt_cmpR op_lt (pv 4) pe_int (nomark _)))))
    (pss_one (ps_ret pe_bl))
    pss_nil)
  (pss_cons (ps_asg (pv 2) (pg_lst (by rfl) (pgs_cons (pg_name (i := 5) sc_accepts_uneven.nd rfl (Or.inl rfl)) (pgs_cons (pg_name (i := 6) sc_accepts_uneven.nd rfl (Or.inl rfl)) pgs_nil))))
  (pss_cons (ps_asg (pe_def d_lowest_share (hr.mono (by decide)) (by rfl) (pa_cons (pv 5) (pa_cons (pv 3) (pa_cons (pv 4) pa_nil)))) (pg_tup (by rfl) (pgs_cons (pg_name (i := 7) sc_accepts_uneven.nd rfl (Or.inl rfl)) (pgs_cons (pg_name (i := 8) sc_accepts_uneven.nd rfl (Or.inl rfl)) pgs_nil))))
  (pss_cons (ps_asg (pe_def d_lowest_share (hr.mono (by decide)) (by rfl) (pa_cons (pv 6) (pa_cons (pv 3) (pa_cons (pv 4) pa_nil)))) (pg_tup (by rfl) (pgs_cons (pg_name (i := 9) sc_accepts_uneven.nd rfl (Or.inl rfl)) (pgs_cons (pg_name (i := 10) sc_accepts_uneven.nd rfl (Or.inl rfl)) pgs_nil))))
  (pss_one (ps_ret (pe_cmpR op_lt (pe_op op_mulW (pv 7) (pv 10)) (pe_op op_mulW (pv 9) (pv 8)) (nomark _))))))))))), ?_⟩
    refine ⟨_, rfl, t, ks, ms, rfl, hT, g, g', fun pq a b H1 s1 hq0 hq1 hA hM => ?_⟩
    refine ⟨_, rfl, rfl, _, rfl, iteF ⟨_, rfl, v, 2, o, rfl, hP.same s1, fun H2 s2 => ?_⟩⟩
    have s12 := s1.trans s2
    cases hi : intsAns o 2 with
    | false =>
      have e := un_none (ks := ks) (ms := ms) hi
      rw [e] at q
      refine ⟨_, rfl, ?_⟩
      exact ite2 (fun _ => q H2 s12) (fun z => absurd rfl z)
    | true =>
      obtain ⟨p, wh, rfl⟩ := ints_two hi
      have wb := hb p wh rfl
      refine ⟨_, rfl, ite2 (fun z => absurd z (by decide)) (fun _ => ?_)⟩
      obtain ⟨a2, rfl, hU⟩ : ∃ a2, v = .ref a2 ∧ SqT K H2 a2 [.int p, .int wh] := by
        cases hP with
        | nums h l => exact ⟨_, rfl, same_t s12 h⟩
      refine ⟨_, rfl, a2, _, rfl, hU, rfl, _, _, rfl, _, _, rfl, rfl, ?_⟩
      have ua : unAns ks ms (some [p, wh]) = (decide (0 ≤ p ∧ p ≤ wh) && (decide (1 ≤ wh) && isLess ks ms p wh)) := rfl
      rw [ua] at q
      refine ⟨_, rfl, _, _, rfl, rfl, _, rfl, ite2 (fun c0 => ?_) (fun c0 => ?_)⟩
      · have p0 : 0 ≤ p := of_decide_eq_true c0
        refine ⟨_, rfl, _, _, rfl, rfl, _, rfl, ite2 (fun c1 => ?_) (fun c1 => ?_)⟩
        · have n1 : ¬ (0 ≤ p ∧ p ≤ wh) := fun z => by simp [z.2] at c1
          have e : (decide (0 ≤ p ∧ p ≤ wh) && (decide (1 ≤ wh) && isLess ks ms p wh)) = false := by simp [n1]
          rw [e] at q
          exact iteT (q H2 s12)
        · have pw : p ≤ wh := by simpa using c1
          refine ⟨_, rfl, _, _, rfl, rfl, _, rfl, ite2 (fun c2 => ?_) (fun c2 => ?_)⟩
          · have n1 : ¬ 1 ≤ wh := fun z => by
              have : wh < 1 := of_decide_eq_true c2
              omega
            have e : (decide (0 ≤ p ∧ p ≤ wh) && (decide (1 ≤ wh) && isLess ks ms p wh)) = false := by simp [n1]
            rw [e] at q
            exact q H2 s12
          · have w1 : 1 ≤ wh := by
              have : ¬ wh < 1 := fun z => c2 (decide_eq_true z)
              omega
            have e : (decide (0 ≤ p ∧ p ≤ wh) && (decide (1 ≤ wh) && isLess ks ms p wh)) = isLess ks ms p wh := by simp [p0, pw, w1]
            rw [e] at q
            obtain ⟨A1, A2⟩ := share_bits g p0 pw w1 wb
            obtain ⟨B1, B2⟩ := share_bits g' p0 pw w1 wb
            refine ⟨_, rfl, pq, _, rfl, SqL.of (s2 _ _ hq1), rfl, _, _, rfl, _, _, rfl, rfl, ?_⟩
            refine ⟨_, rfl, _, rfl, _, rfl, a, ks, p, wh, rfl, hA.same s2, g, p0, pw, w1, wb, fun p3 H3 hp3 s3 h3 => ?_⟩
            refine ⟨p3, _, rfl, SqT.of h3, rfl, _, _, rfl, _, _, rfl, rfl, ?_⟩
            refine ⟨_, rfl, _, rfl, _, rfl, b, ms, p, wh, rfl, (hM.same s2).same s3, g', p0, pw, w1, wb, fun p4 H4 hp4 s4 h4 => ?_⟩
            refine ⟨p4, _, rfl, SqT.of h4, rfl, _, _, rfl, _, _, rfl, rfl, ?_⟩
            refine ⟨_, rfl, _, rfl, _, _, rfl, rfl, wide_mul A1 B2 (by decide) (by decide) (by decide), _, rfl, _, rfl, _, _, rfl, rfl, wide_mul B1 A2 (by decide) (by decide) (by decide), _, _, rfl, rfl, ?_⟩
            exact q H4 (s12.trans (s3.trans s4))
      · have n0 : ¬ 0 ≤ p := fun z => c0 (decide_eq_true z)
        have e : (decide (0 ≤ p ∧ p ≤ wh) && (decide (1 ≤ wh) && isLess ks ms p wh)) = false := by simp [n0]
        rw [e] at q
        refine ⟨_, rfl, ?_⟩
        exact iteT (iteT (q H2 s12))
end

section
variable {P : Program} {w : World} {K : PySem.W.Frag} {mg : Str → Option Value} {base : Heap} {C CP : Addr}
theorem ok_accepts_even {f : Addr} {fd : FuncData} (F : Fun K "accepts_even" "accepts_even" s_accepts_even f fd) (T : Txt K mg C CP) (d_is_tuple : Def P w K mg base "is_tuple" ["value"] 1 (spIsTy K "tuple")) (d_told_purses : Def P w K mg base "told_purses" ["texts"] 7 (spToldP K))
    (d_first_crossing : Def P w K mg base "first_crossing" ["kinds", "others"] 3 spFirstX) : FnOk P w K mg base CX0 8 f fd ["told", "certificate"] (spEven K) := by
  refine F.ok sc_accepts_even (fun vs H Q E h => ?_) (fun cdv A outer s H vs Q E hr h => ?_)
  · obtain ⟨t, v, ks, ms, e, rfl, _⟩ := h
    rfl
  · obtain ⟨t, v, ks, ms, e, rfl, hT, g, g', hP, q⟩ := h
    refine ⟨_, (pss_cons (ps_set (i := 2) sc_accepts_even.nd rfl (Or.inl rfl) (pe_def d_told_purses (hr.mono (by decide)) (by rfl) (pa_cons (pv 0) pa_nil)))
  (pss_cons (ps_if (PW.pt (pw_or (pt_cmpR op_isN (pv 2) pe_non (nomark _)) (pw_or1 (pt_not (pt_val (pe_def d_is_tuple (hr.mono (by decide)) (by rfl) (pa_cons (pv 1) pa_nil)))))))
    (pss_one (ps_ret pe_bl))
    pss_nil)
  (pss_cons (ps_asg (pv 2) (pg_lst (by rfl) (pgs_cons (pg_name (i := 3) sc_accepts_even.nd rfl (Or.inl rfl)) (pgs_cons (pg_name (i := 4) sc_accepts_even.nd rfl (Or.inl rfl)) pgs_nil))))
  (pss_one (ps_ret (pe_and (pe_cmpR (op_eqD hr.units) (pv 1) (pe_tup pa_nil) (nomark _)) (pe_one (pe_cmpR op_isN (pe_def d_first_crossing (hr.mono (by decide)) (by rfl) (pa_cons (pv 3) (pa_cons (pv 4) pa_nil))) pe_non (nomark _))))))))), ?_⟩
    refine ⟨_, rfl, t, ks, ms, rfl, hT, g, g', fun pq a b H1 s1 hq0 hq1 hA hM => ?_⟩
    have hP1 := hP.same s1
    have ac := asE_cross g g'
    cases hP1 with
    | other ty n =>
      refine ⟨_, rfl, rfl, _, rfl, iteF ⟨_, rfl, v, _, rfl, ty, _, rfl, ite2 (fun _ => q H1 s1) (fun z => absurd (by rw [decide_eq_false n]; rfl) z)⟩⟩
    | @tup pa xs ds h d sh =>
      refine ⟨_, rfl, rfl, _, rfl, iteF ⟨_, rfl, _, _, rfl, .tup h, _, rfl, ite2 (fun z => absurd z (by decide)) (fun _ => ?_)⟩⟩
      refine ⟨_, rfl, pq, _, rfl, SqL.of hq1, rfl, _, _, rfl, _, _, rfl, rfl, ?_⟩
      refine ⟨_, rfl, (by show 0 ≤ sizeLine; decide), fun z hz => ?_⟩
      have sz := same_new (o := .tup []) hz
      refine ⟨.tuple ds, .tuple [], .tup (same_t sz h) (d _ sz), .tup (SqT.of upd_same) .nil, sh, rfl, ?_⟩
      rw [eqv_empty]
      refine ⟨_, rfl, ?_⟩
      cases he : ds.isEmpty with
      | false =>
        rw [he] at q
        exact iteF (q _ (s1.trans sz))
      | true =>
        rw [he] at q
        refine iteT ⟨_, rfl, _, rfl, a, b, ks, ms, rfl, hA.same sz, g, hM.same sz, g', fun H3 s3 => ⟨fun hn => ⟨rfl, ?_⟩, fun x hx p2 hp2 hp3 => ⟨rfl, ?_⟩⟩⟩
        · rw [hn] at ac
          have e : (true && asE ks ms) = true := by rw [← ac]; rfl
          rw [e] at q
          exact q H3 ((s1.trans sz).trans s3)
        · rw [hx] at ac
          have e : (true && asE ks ms) = false := by rw [← ac]; rfl
          rw [e] at q
          exact q H3 ((s1.trans sz).trans s3)
end

section
variable {P : Program} {w : World} {K : PySem.W.Frag} {mg : Str → Option Value} {base : Heap} {C CP : Addr}
theorem ok_told_rules {f : Addr} {fd : FuncData} (F : Fun K "told_rules" "told_rules" s_told_rules f fd) (T : Txt K mg C CP) (d_is_text : Def P w K mg base "is_text" ["value"] 1 (spIsTy K "str")) (d_bands_with : Def P w K mg base "bands_with" ["text"] 6 spBandsWith) : FnOk P w K mg base CX0 7 f fd ["texts"] (spToldR K) := by
  refine F.ok sc_told_rules (fun vs H Q E h => ?_) (fun cdv A outer s H vs Q E hr h => ?_)
  · obtain ⟨t, ks, ms, rfl, _⟩ := h
    rfl
  · obtain ⟨t, ks, ms, rfl, hT, g, g', q⟩ := h
    refine ⟨_, (pss_cons (ps_if (PW.pt (pw_or (pt_cmpR op_ne (pe_callB call_len_seq (by rfl) T.b_len (by decide +kernel) (pa_cons (pv 0) pa_nil)) pe_int (nomark _)) (pw_or1 (pt_not (pt_val (pe_callB (cr_all rfl) (by rfl) T.b_all (by decide +kernel) (pa_cons (pe_lc (own := [("text", 1)]) (g := gName 1) (tt := tYes) rfl sc_told_rules.nd (pi_tup (pv 0)) (blkOk_by (N := ["texts", "text", "rules"]) (sc := defScope s_told_rules) (by decide +kernel)) (fun _ _ _ _ _ => pg_name (i := 1) sc_told_rules.nd rfl (Or.inl rfl)) (fun _ _ _ _ _ => pts_nil) (fun _ _ _ _ _ => (pe_def d_is_text (hr.mono (by decide)) (by rfl) (pa_cons (pv 1) pa_nil)))) pa_nil)))))))
    (pss_one (ps_ret pe_non))
    pss_nil)
  (pss_cons (ps_setLc (i := 2) (own := [("text", 1)]) (g := gName 1) (tt := tYes) rfl sc_told_rules.nd rfl rfl (sw_true rfl rfl rfl (by decide +kernel)) (pi_tup (pv 0)) (blkOk_by (N := ["texts", "text", "rules"]) (sc := defScope s_told_rules) (by decide +kernel)) (fun _ _ _ _ _ => pg_name (i := 1) sc_told_rules.nd rfl (Or.inl rfl)) (fun _ _ _ _ _ => pts_nil) (fun _ _ _ _ _ => (pe_def d_bands_with (hr.mono (by decide)) (by rfl) (pa_cons (pv 1) pa_nil))))
  (pss_one (ps_ret (pe_ifExp (pt_cmpR (op_inD (un65 hr)) pe_non (pv 2) (by with_unfolding_all rfl)) pe_non (pv 2)))))), ?_⟩
    refine ⟨_, rfl, t, _, rfl, .inr hT, rfl, _, rfl, ite2 (fun z => absurd z (by simp)) (fun _ => ?_)⟩
    refine ⟨_, rfl, t, rfl, ⟨_, hT⟩, fun D hD => lc_tup (K := K) (xs := [.str (pageOf ks), .str (pageOf ms)]) (fun i H' => Same H H' ∧ H' D = some (.lst ((List.replicate i true).map V.bl)))
      ⟨same_new hD, upd_same⟩ (fun i H' _ ⟨s1, _⟩ => same_t s1 hT) ?_ ?_⟩
    · rintro i v H1 hi ⟨s1, hd⟩
      obtain ⟨z, rfl⟩ : ∃ z, v = .str z := by
        match i, hi with
        | 0, hi => exact ⟨_, (Option.some.inj hi).symm⟩
        | 1, hi => exact ⟨_, (Option.some.inj hi).symm⟩
        | i + 2, hi => cases hi
      have il : i < 2 := (List.getElem?_eq_some_iff.mp hi).1
      refine ⟨rfl, _, rfl, _, _, rfl, .str z, _, hd, ?_, fun c o e => ?_, ?_⟩
      · rw [List.length_map, List.length_replicate, sizeLine_eq]
        omega
      · rw [upd_ne (ne_of_none e hD)]
        exact s1 _ _ e
      · rw [upd_same, List.replicate_succ', List.map_append]
        rfl
    rintro H1 ⟨s1, hd⟩
    refine ⟨D, List.replicate _ true, rfl, SqL.of hd, ?_⟩
    rw [all_true]
    refine ⟨_, rfl, iteF ?_⟩
    have hT1 := same_t s1 hT
    refine ⟨_, rfl, t, rfl, ⟨_, hT1⟩, fun D2 hD2 => lc_tup (K := K) (xs := [.str (pageOf ks), .str (pageOf ms)]) (fun i H' => ∃ rs : List Addr, rs.length = i ∧ Same H1 H' ∧ H' D2 = some (.lst (rs.map V.ref)) ∧ ∀ (j : Nat) r b, rs[j]? = some r → [ks, ms][j]? = some b → BandsAt H' r b)
      ⟨[], rfl, same_new hD2, upd_same, fun j r b h => by cases h⟩ (fun i H' _ ⟨_, _, s2, _⟩ => same_t s2 hT1) ?_ ?_⟩
    · rintro i v H2 hi ⟨rs, lr, s2, hd2, ht⟩
      obtain ⟨b, hb, rfl, gb⟩ : ∃ b, [ks, ms][i]? = some b ∧ v = .str (pageOf b) ∧ Good b := by
        match i, hi with
        | 0, hi => exact ⟨ks, rfl, (Option.some.inj hi).symm, g⟩
        | 1, hi => exact ⟨ms, rfl, (Option.some.inj hi).symm, g'⟩
        | i + 2, hi => cases hi
      have il : i < 2 := (List.getElem?_eq_some_iff.mp hb).1
      refine ⟨rfl, _, rfl, b, rfl, gb, fun r H3 s3 hB => ⟨_, s3 _ _ hd2, ?_, rs ++ [r], ?_, fun c o e => ?_, ?_, fun j r' b' h1 h2 => ?_⟩⟩
      · rw [List.length_map, sizeLine_eq]
        omega
      · rw [List.length_append, lr]
        rfl
      · rw [upd_ne (ne_of_none e hD2)]
        exact s3 _ _ (s2 _ _ e)
      · rw [upd_same, List.map_append]
        rfl
      · rcases snoc_get h1 with ⟨lj, h1⟩ | ⟨ej, rfl⟩
        · exact ((ht j r' b' h1 h2).same s3).put (s3 _ _ hd2)
        · rw [lr] at ej
          subst ej
          rw [hb] at h2
          cases h2
          exact hB.put (s3 _ _ hd2)
    · rintro H2 ⟨rs, lr, s2, hd2, ht⟩
      obtain ⟨a, b, rfl⟩ : ∃ a b, rs = [a, b] := by
        match rs, lr with
        | [a, b], _ => exact ⟨a, b, rfl⟩
      have hA := ht 0 a ks rfl rfl
      have hM := ht 1 b ms rfl rfl
      have dl : Dp K H2 (.ref D2) (.list [bandsD ks, bandsD ms]) := .lst (SqL.of hd2) (.cons hA.dp (.cons hM.dp .nil))
      have sh : SeqAt.shaped (.list [bandsD ks, bandsD ms]) = true := by
        have h1 := (Bool.and_eq_true_iff.mp (shaped_bands ks)).1
        have h2 := (Bool.and_eq_true_iff.mp (shaped_bands ms)).1
        have d1 : (bandsD ks).depth ≤ 5 := by
          have := depth_bands ks
          simp only [bandsD, PyData.depth]
          omega
        have d2 : (bandsD ms).depth ≤ 5 := by
          have := depth_bands ms
          simp only [bandsD, PyData.depth]
          omega
        unfold SeqAt.shaped
        rw [Bool.and_eq_true]
        refine ⟨?_, decide_eq_true ?_⟩
        · simp only [PyData.canLay0, PyData.canLayAll0, h1, h2, Bool.and_true]
        · simp only [PyData.depth, PyData.depthAll]
          omega
      have na : ([bandsD ks, bandsD ms].any fun z => z.eqv PyData.none) = false := by simp [bandsD, PyData.eqv]
      refine ⟨_, rfl, .none, _, .non, dl, by decide, sh, ?_⟩
      rw [na]
      exact ⟨_, rfl, iteF ⟨_, rfl, q D2 a b H2 (s1.trans s2) (s1.free hD2) hd2 hA hM⟩⟩
theorem ok_accepts_more {f : Addr} {fd : FuncData} (F : Fun K "accepts_more" "accepts_more" s_accepts_more f fd) (T : Txt K mg C CP) (d_told_rules : Def P w K mg base "told_rules" ["texts"] 7 (spToldR K)) (d_is_tuple : Def P w K mg base "is_tuple" ["value"] 1 (spIsTy K "tuple"))
    (d_first_turn : Def P w K mg base "first_turn" ["bands"] 2 spFirstTurn) (d_first_broken : Def P w K mg base "first_broken" ["pairs"] 2 spFirstBroken) (d_neighbours : Def P w K mg base "neighbours" ["bands", "others"] 3 spNeigh) : FnOk P w K mg base CX0 8 f fd ["told", "certificate"] (spMoreC K) := by
  refine F.ok sc_accepts_more (fun vs H Q E h => ?_) (fun cdv A outer s H vs Q E hr h => ?_)
  · obtain ⟨t, v, bs, cs, e, rfl, _⟩ := h
    rfl
  · obtain ⟨t, v, bs, cs, e, rfl, hT, g, g', hP, q⟩ := h
    refine ⟨_, (pss_cons (ps_set (i := 2) sc_accepts_more.nd rfl (Or.inl rfl) (pe_def d_told_rules (hr.mono (by decide)) (by rfl) (pa_cons (pv 0) pa_nil)))
  (pss_cons (ps_if (PW.pt (pw_or (pt_cmpR op_isN (pv 2) pe_non (nomark _)) (pw_or1 (pt_not (pt_val (pe_def d_is_tuple (hr.mono (by decide)) (by rfl) (pa_cons (pv 1) pa_nil)))))))
    (pss_one (ps_ret pe_bl))
    pss_nil)
  (pss_cons (ps_asg (pv 2) (pg_lst (by rfl) (pgs_cons (pg_name (i := 3) sc_accepts_more.nd rfl (Or.inl rfl)) (pgs_cons (pg_name (i := 4) sc_accepts_more.nd rfl (Or.inl rfl)) pgs_nil))))
  (pss_one (ps_ret (pe_and (pe_cmpR (op_eqD hr.units) (pv 1) (pe_tup pa_nil) (nomark _)) (pe_and (pe_cmpR op_isN (pe_def d_first_turn (hr.mono (by decide)) (by rfl) (pa_cons (pv 4) pa_nil)) pe_non (nomark _)) (pe_one (pe_cmpR op_isN (pe_def d_first_broken (hr.mono (by decide)) (by rfl) (pa_cons (pe_def d_neighbours (hr.mono (by decide)) (by rfl) (pa_cons (pv 3) (pa_cons (pv 4) pa_nil))) pa_nil)) pe_non (nomark _)))))))))), ?_⟩
    refine ⟨_, rfl, t, bs, cs, rfl, hT, g, g', fun pq a b H1 s1 hq0 hq1 hA hM => ?_⟩
    have hP1 := hP.same s1
    cases hP1 with
    | other ty n =>
      refine ⟨_, rfl, rfl, _, rfl, iteF ⟨_, rfl, v, _, rfl, ty, _, rfl, ite2 (fun _ => q H1 false s1 fun xs _ => rfl) (fun z => absurd (by rw [decide_eq_false n]; rfl) z)⟩⟩
    | @tup pa xs ds h d sh =>
      refine ⟨_, rfl, rfl, _, rfl, iteF ⟨_, rfl, _, _, rfl, .tup h, _, rfl, ite2 (fun z => absurd z (by decide)) (fun _ => ?_)⟩⟩
      refine ⟨_, rfl, pq, _, rfl, SqL.of hq1, rfl, _, _, rfl, _, _, rfl, rfl, ?_⟩
      refine ⟨_, rfl, (by show 0 ≤ sizeLine; decide), fun z hz => ?_⟩
      have sz := same_new (o := .tup []) hz
      refine ⟨.tuple ds, .tuple [], .tup (same_t sz h) (d _ sz), .tup (SqT.of upd_same) .nil, sh, rfl, ?_⟩
      rw [eqv_empty]
      refine ⟨_, rfl, ?_⟩
      cases he : ds.isEmpty with
      | false =>
        rw [he] at q
        exact iteF (q _ false (s1.trans sz) fun xs _ => rfl)
      | true =>
        rw [he] at q
        refine iteT ⟨_, rfl, b, cs, rfl, hM.same sz, g', fun H3 s3 => ⟨rfl, ?_⟩⟩
        have s13 := (s1.trans sz).trans s3
        have s23 := sz.trans s3
        cases hf : firstTurn cs with
        | some z => exact ⟨_, rfl, iteF (q H3 false s13 fun xs _ => by unfold moreAns; rw [hf]; rfl)⟩
        | none =>
          refine ⟨_, rfl, iteT ⟨_, rfl, _, rfl, a, b, bs, cs, rfl, hA.same s23, g, hM.same s23, g', fun p H4 xs s4 sp nb => ?_⟩⟩
          refine ⟨p, bs, cs, xs, rfl, nb, fun x hx => ?_, fun hn => ?_, fun x hx t' u' H5 s5 _ _ => ?_⟩
          · have bd := spot_bounds g.tame g'.tame ((sp.mem x).mp hx)
            exact quad_small g.tame g'.tame bd.1 bd.2
          · exact ⟨rfl, q H4 true (s13.trans s4) fun ys sp' => by unfold moreAns; rw [hf, sp'.unique sp, hn]; rfl⟩
          · exact ⟨rfl, q H5 false (s13.trans (s4.trans s5)) fun ys sp' => by unfold moreAns; rw [hf, sp'.unique sp, hx]; rfl⟩
end

/-! ### the drawing defs of the law -/
section
variable {P : Program} {w : World} {K : PySem.W.Frag} {mg : Str → Option Value} {base : Heap} {C CP : Addr}
theorem ok_gdraw {f : Addr} {fd : FuncData} (F : Fun K "_law_draw" "_law_draw" s__law_draw f fd) (T : Txt K mg C CP) : FnOk P w K mg base CX0 1 f fd ["well", "many"] spDraw := by
  refine F.ok sc__law_draw (fun vs H Q E h => ?_) (fun cdv A outer s H vs Q E hr h => ?_)
  · obtain ⟨a, size, n, rfl, _⟩ := h
    rfl
  · obtain ⟨a, size, n, rfl, h1, h2, ⟨x, y, z, hv, hx0, hy0, hy1, hz0, hz1⟩, hn, q⟩ := h
    refine ⟨_, (pss_cons (ps_asg (pe_op op_add (pe_ix ix_list (pv 0) pe_int (fun _ _ => rfl)) pe_int) (pg_sub (pv 0) pe_int set_list))
  (pss_cons (ps_if (pt_cmpR op_gt (pe_ix ix_list (pv 0) pe_int (fun _ _ => rfl)) pe_int (nomark _))
    (pss_cons (ps_asg (pe_callB call_divmodW (by rfl) T.b_divmod (by decide +kernel) (pa_cons (pe_ix ix_list (pv 0) pe_int (fun _ _ => rfl)) (pa_cons (pv 1) pa_nil))) (pg_tup (by rfl) (pgs_cons (pg_sub (pv 0) pe_int set_list) (pgs_cons (pg_name (i := 2) sc__law_draw.nd rfl (Or.inl rfl)) pgs_nil))))
  (pss_one (ps_ret (pv 2))))
    pss_nil)
  (pss_cons (ps_asg (pe_op op_mod (pe_callTy call_int1 (by rfl) T.b_int (by decide +kernel) (pa_cons (pe_op op_add (pe_op op_add (pe_op op_mul (pe_ix ix_list (pv 0) pe_int (fun _ _ => rfl)) pe_int) (pe_op op_mul (pe_ix ix_list (pv 0) pe_int (fun _ _ => rfl)) pe_int)) pe_int) pa_nil)) pe_int) (pg_sub (pv 0) pe_int set_list))
  (pss_one (ps_ret (pe_op op_mod (pe_callTy call_int1 (by rfl) T.b_int (by decide +kernel) (pa_cons (pe_op op_fdiv (pe_ix ix_list (pv 0) pe_int (fun _ _ => rfl)) pe_int) pa_nil)) (pv 1))))))), ?_⟩
    refine ⟨_, rfl, a, _, 2, .int z, rfl, rfl, SqL.of hv, at2, z, 1, rfl, rfl, _, rfl, a, _, 2, 2, rfl, rfl, hv, rfl, ?_⟩
    have h2' : (upd H a (.lst [.int x, .int y, .int (z + 1)])) a = some (.lst [.int x, .int y, .int (z + 1)]) := upd_same
    refine ⟨_, rfl, a, _, 0, .int x, rfl, rfl, SqL.of h2', at0, x, 0, rfl, rfl, _, rfl, ite2 (fun c => ?_) (fun c => ?_)⟩
    · have hx1 : 0 < x := of_decide_eq_true c
      refine ⟨_, rfl, a, _, 0, .int x, rfl, rfl, SqL.of h2', at0, _, rfl, x, size, rfl, divF h1 h2, fun p hp => ?_⟩
      have hpa : a ≠ p := ne_of_none h2' hp
      refine ⟨p, _, rfl, SqT.of upd_same, rfl, _, _, rfl, _, rfl, a, _, 0, 0, rfl, rfl, (upd_ne hpa).trans h2', rfl, _, _, rfl, rfl, _, rfl, ?_⟩
      refine q _ _ (Int.emod_nonneg _ (by omega)) (Int.emod_lt_of_pos _ (by omega)) ((Fx.put.trans (Fx.new hp)).trans Fx.put) ⟨x / size, y, z + 1, upd_same, Int.ediv_nonneg hx0 (by omega), hy0, hy1, by omega, by omega⟩
    · refine ⟨_, rfl, a, _, 1, .int y, rfl, rfl, SqL.of h2', at1, y, 39373, rfl, rfl, .inl ⟨by omega, by omega⟩, ?_⟩
      refine ⟨_, rfl, a, _, 2, .int (z + 1), rfl, rfl, SqL.of h2', at2, z + 1, 911, rfl, rfl, .inl ⟨by omega, by omega⟩, _, _, rfl, rfl, _, 17, rfl, rfl, ?_⟩
      refine .inl ⟨_, rfl, _, 2147483353, rfl, rfl, (by show (0 : Int) < 2147483353; decide), _, rfl, a, _, 1, 1, rfl, rfl, h2', rfl, ?_⟩
      have e0 : ∀ w : Int, 0 ≤ w % 2147483353 := fun w => Int.emod_nonneg _ (by decide)
      have e1 : ∀ w : Int, w % 2147483353 < 2147483353 := fun w => Int.emod_lt_of_pos _ (by decide)
      refine ⟨_, rfl, a, _, 1, _, rfl, rfl, SqL.of upd_same, at1, _, 256, rfl, rfl, ⟨by decide, by decide⟩, .inl ⟨_, rfl, _, rfl, _, size, rfl, rfl, (by show (0 : Int) < size; omega), ?_⟩⟩
      exact q _ _ (Int.emod_nonneg _ (by omega)) (Int.emod_lt_of_pos _ (by omega)) (Fx.put.trans Fx.put) ⟨x, _, z + 1, upd_same, hx0, e0 _, Int.lt_trans (e1 _) (by decide), by omega, by omega⟩
theorem cut_intW {ns : List Int} {lo hi : Option Int} {i : Nat} {v : V} (h : (cutV (ns.map V.int) lo hi)[i]? = some v) : ∃ u : Int, v = .int u := by
  have m := List.mem_of_mem_drop (List.mem_of_mem_take (List.mem_of_getElem? h))
  obtain ⟨u, _, e⟩ := List.mem_map.mp m
  exact ⟨u, e.symm⟩
theorem ok_gwell {f : Addr} {fd : FuncData} (F : Fun K "_law_well" "_law_well" s__law_well f fd) (T : Txt K mg C CP) : FnOk P w K mg base CX0 1 f fd ["script", "at"] (spGwell K) := by
  refine F.ok sc__law_well (fun vs H Q E h => ?_) (fun cdv A outer s H vs Q E hr h => ?_)
  · obtain ⟨sc, ns, lap, rfl, _⟩ := h
    rfl
  · obtain ⟨sc, ns, lap, rfl, hS, hlen, l0, l1, q⟩ := h
    refine ⟨_, (pss_cons (ps_set (i := 2) sc__law_well.nd rfl (Or.inl rfl) (pe_op op_add pe_int (pe_op op_mul pe_int (pv 1))))
  (pss_cons (ps_for PassesOwn.never rfl (pi_list (pe_slice sl_list (pv 0) po_none (po_some pe_int))) (pg_name (i := 3) sc__law_well.nd rfl (Or.inl rfl))
    (pss_one (ps_set (i := 2) sc__law_well.nd rfl (Or.inl rfl) (pe_op op_mod (pe_callTy call_int1 (by rfl) T.b_int (by decide +kernel) (pa_cons (pe_op op_add (pe_op op_add (pe_op op_mul (pv 2) pe_int) (pe_op op_mul (pe_callTy call_int1 (by rfl) T.b_int (by decide +kernel) (pa_cons (pv 3) pa_nil)) pe_int)) (pv 1)) pa_nil)) pe_int))))
  (pss_cons (ps_set (i := 4) sc__law_well.nd rfl (Or.inl rfl) (pe_ifExp (pt_cmpR op_lt (pv 1) (pe_callB call_len_seq (by rfl) T.b_len (by decide +kernel) (pa_cons (pv 0) pa_nil)) (nomark _)) (pe_callTy call_int1 (by rfl) T.b_int (by decide +kernel) (pa_cons (pe_ix ix_list (pv 0) (pv 1) (fun _ _ => rfl)) pa_nil)) (pv 2)))
  (pss_one (ps_ret (pe_lst (pa_cons (pe_ifExp (PW.pt (pw_or (pt_cmpR op_lt (pv 4) pe_int (nomark _)) (pw_or1 (pt_cmpR op_ge (pv 4) (pe_op op_pow pe_int pe_int) (nomark _))))) (pe_callB call_abs (by rfl) T.b_abs (by decide +kernel) (pa_cons (pv 4) pa_nil)) pe_int) (pa_cons (pe_op op_mod (pe_callTy call_int1 (by rfl) T.b_int (by decide +kernel) (pa_cons (pe_op op_add (pe_op op_mul (pv 2) pe_int) (pv 4)) pa_nil)) pe_int) (pa_cons pe_int pa_nil))))))))), ?_⟩
    refine ⟨_, rfl, 70001, lap, rfl, rfl, .inl ⟨by decide, by decide⟩, _, _, rfl, rfl, ?_⟩
    refine ⟨_, rfl, 8, rfl, sc, _, rfl, hS, fun c hc => ?_⟩
    have s1 := same_new (o := .lst (cutV (ns.map V.int) none (some 8))) hc
    refine ⟨c, rfl, ⟨_, SqL.of upd_same⟩, for_list (K := K) (a := c) (xs := cutV (ns.map V.int) none (some 8)) (fun i σ H'' => ∃ (ch : Int) (x y : Option V), σ = [some (.ref sc), some (.int lap), some (.int ch), x, y] ∧ 0 ≤ ch ∧ ch < 2147483648 ∧ Same H H'' ∧ H'' c = some (.lst (cutV (ns.map V.int) none (some 8))))
      ⟨_, none, none, rfl, (by show 0 ≤ 311111 + 70001 * lap; omega), (by show 311111 + 70001 * lap < 2147483648; omega), s1, upd_same⟩ (fun i σ H' _ ⟨_, _, _, _, _, _, _, h⟩ => SqL.of h) ?_ ?_⟩
    · rintro i v σ H1 hi ⟨ch, x, y, rfl, c0, c1, s2, hc2⟩
      obtain ⟨u, rfl⟩ := cut_intW hi
      refine ⟨_, rfl, _, _, rfl, rfl, .inl ⟨by omega, by omega⟩, _, rfl, .inl ⟨_, rfl, _, 3, rfl, rfl, .inr ⟨by decide, by decide⟩, _, _, rfl, rfl, _, rfl, _, _, rfl, rfl, .inl ⟨_, rfl, _, 2147483353, rfl, rfl, (by show (0 : Int) < 2147483353; decide), ?_⟩⟩⟩
      exact ⟨_, _, _, rfl, Int.emod_nonneg _ (by decide), Int.lt_trans (Int.emod_lt_of_pos _ (by decide)) (by decide), s2, hc2⟩
    · rintro σ H1 ⟨ch, x, y, rfl, c0, c1, s2, hc2⟩
      have hS1 := s2.seq hS
      refine ⟨_, rfl, _, rfl, sc, _, rfl, .inl hS1, _, _, rfl, rfl, _, rfl, ?_⟩
      refine ite2 (fun k => ?a) (fun k => ?b)
      case' a =>
        have hl : lap < ((ns.map V.int).length : Int) := of_decide_eq_true k
        rw [List.length_map] at hl
        have hi : (ns.map V.int)[lap.toNat]? = some (.int (ns[lap.toNat]'(by omega))) := by
          rw [List.getElem?_map, List.getElem?_eq_getElem (by omega)]
          rfl
        refine ⟨_, rfl, _, rfl, sc, _, lap, _, rfl, rfl, hS1, atI_at l0 hi, .inl ⟨_, rfl, ?_⟩⟩
        generalize ns[lap.toNat]'(by omega) = own
      case' b =>
        refine ⟨_, rfl, ?_⟩
        obtain ⟨own, rfl⟩ : ∃ own : Int, own = ch := ⟨ch, rfl⟩
      all_goals
        have fin : ∀ w y : Int, 0 ≤ y → ∀ p : Addr, H1 p = none → Q (.ref p) (upd H1 p (.lst [.int y, .int (w % 2147483353), .int 0])) := fun w y hy p hp =>
          q p _ (s2.free hp) (s2.trans (same_new hp)) ⟨y, _, 0, upd_same, hy, Int.emod_nonneg _ (by decide), Int.lt_trans (Int.emod_lt_of_pos _ (by decide)) (by decide), by decide, by decide⟩
        refine ⟨_, rfl, _, 0, rfl, rfl, _, rfl, ite2 (fun c => ?_) (fun c => ?_)⟩
        · refine iteT ⟨_, rfl, _, rfl, ?_⟩
          refine ⟨_, rfl, _, 7, rfl, rfl, .inr ⟨by decide, by decide⟩, _, rfl, _, _, rfl, rfl, .inl ⟨_, rfl, _, 2147483353, rfl, rfl, (by show (0 : Int) < 2147483353; decide), (by show 3 ≤ sizeLine; decide), fun p hp => fin _ _ ?_ p hp⟩⟩
          split <;> omega
        · refine ⟨_, rfl, 10, 18, rfl, rfl, ⟨by decide, by decide, by decide⟩, _, _, rfl, rfl, _, rfl, ite2 (fun c2 => ?_) (fun c2 => ?_)⟩
          · refine ⟨_, rfl, _, rfl, ?_⟩
            refine ⟨_, rfl, _, 7, rfl, rfl, .inr ⟨by decide, by decide⟩, _, rfl, _, _, rfl, rfl, .inl ⟨_, rfl, _, 2147483353, rfl, rfl, (by show (0 : Int) < 2147483353; decide), (by show 3 ≤ sizeLine; decide), fun p hp => fin _ _ ?_ p hp⟩⟩
            split <;> omega
          · refine ⟨_, rfl, _, 7, rfl, rfl, .inr ⟨by decide, by decide⟩, _, rfl, _, _, rfl, rfl, .inl ⟨_, rfl, _, 2147483353, rfl, rfl, (by show (0 : Int) < 2147483353; decide), (by show 3 ≤ sizeLine; decide), fun p hp => fin _ _ (by decide) p hp⟩⟩
theorem ok_gfar {f : Addr} {fd : FuncData} (F : Fun K "_law_far" "_law_far" s__law_far f fd) (T : Txt K mg C CP) (d_law_draw : Def P w K mg base "_law_draw" ["well", "many"] 1 spDraw) : FnOk P w K mg base CX0 2 f fd ["well", "top"] spFar := by
  refine F.ok sc__law_far (fun vs H Q E h => ?_) (fun cdv A outer s H vs Q E hr h => ?_)
  · obtain ⟨a, top, n, rfl, _⟩ := h
    rfl
  · obtain ⟨a, top, n, rfl, t0, t1, hv, hn, q⟩ := h
    refine ⟨_, (pss_cons (ps_set (i := 2) sc__law_far.nd rfl (Or.inl rfl) (pe_def d_law_draw (hr.mono (by decide)) (by rfl) (pa_cons (pv 0) (pa_cons pe_int pa_nil))))
  (pss_cons (ps_if (pt_cmpR op_eq (pv 2) pe_int (nomark _))
    (pss_one (ps_ret (pe_callB (call_min2 rfl) (by rfl) T.b_min (by decide +kernel) (pa_cons (pv 1) (pa_cons (pe_def d_law_draw (hr.mono (by decide)) (by rfl) (pa_cons (pv 0) (pa_cons pe_int pa_nil))) pa_nil)))))
    pss_nil)
  (pss_cons (ps_if (pt_cmpR op_eq (pv 2) pe_int (nomark _))
    (pss_one (ps_ret (pe_callB (call_min2 rfl) (by rfl) T.b_min (by decide +kernel) (pa_cons (pv 1) (pa_cons (pe_def d_law_draw (hr.mono (by decide)) (by rfl) (pa_cons (pv 0) (pa_cons (pe_op op_pow pe_int pe_int) pa_nil))) pa_nil)))))
    pss_nil)
  (pss_cons (ps_if (pt_cmpR op_eq (pv 2) pe_int (nomark _))
    (pss_one (ps_ret (pe_op op_sub (pv 1) (pe_callB (call_min2 rfl) (by rfl) T.b_min (by decide +kernel) (pa_cons (pv 1) (pa_cons (pe_def d_law_draw (hr.mono (by decide)) (by rfl) (pa_cons (pv 0) (pa_cons pe_int pa_nil))) pa_nil))))))
    pss_nil)
  (pss_cons (ps_set (i := 3) sc__law_far.nd rfl (Or.inl rfl) pe_int)
  (pss_cons (ps_for PassesOwn.never rfl (pi_range1 (by rfl) T.b_range (pa_cons pe_int pa_nil)) (pg_name (i := 4) sc__law_far.nd rfl (Or.inl rfl))
    (pss_one (ps_set (i := 3) sc__law_far.nd rfl (Or.inl rfl) (pe_op op_add (pe_op op_mul (pv 3) (pe_op op_pow pe_int pe_int)) (pe_def d_law_draw (hr.mono (by decide)) (by rfl) (pa_cons (pv 0) (pa_cons (pe_op op_pow pe_int pe_int) pa_nil)))))))
  (pss_one (ps_ret (pe_op op_mod (pe_callTy call_int1 (by rfl) T.b_int (by decide +kernel) (pa_cons (pv 3) pa_nil)) (pe_op op_add (pv 1) pe_int)))))))))), ?_⟩
    refine ⟨_, rfl, a, 5, n, rfl, by decide, by decide, hv, by omega, fun way H1 w0 w1 f1 v1 => ?_⟩
    refine ⟨_, rfl, rfl, _, rfl, ite2 (fun _ => ?_) (fun _ => ?_)⟩
    · refine ⟨_, rfl, _, rfl, a, 9, n + 1, rfl, by decide, by decide, v1, by omega, fun r H2 r0 r1 f2 v2 => ⟨top, r, rfl, q _ H2 ?_ ?_ (f1.trans f2) (v2.mono (by omega))⟩⟩
      · split <;> omega
      · split <;> omega
    refine ⟨_, rfl, rfl, _, rfl, ite2 (fun _ => ?_) (fun _ => ?_)⟩
    · refine ⟨_, rfl, _, rfl, 10, 6, rfl, rfl, ⟨by decide, by decide, by decide⟩, a, _, n + 1, rfl, by decide, by decide, v1, by omega, fun r H2 r0 r1 f2 v2 => ⟨top, r, rfl, q _ H2 ?_ ?_ (f1.trans f2) (v2.mono (by omega))⟩⟩
      · split <;> omega
      · split <;> omega
    refine ⟨_, rfl, rfl, _, rfl, ite2 (fun _ => ?_) (fun _ => ?_)⟩
    · refine ⟨_, rfl, _, rfl, _, rfl, a, 3, n + 1, rfl, by decide, by decide, v1, by omega, fun r H2 r0 r1 f2 v2 => ⟨top, r, rfl, _, _, rfl, rfl, q _ H2 ?_ ?_ (f1.trans f2) (v2.mono (by omega))⟩⟩
      · split <;> omega
      · split <;> omega
    refine ⟨12, rfl, by decide, by decide, for_range (lo := 0) (n := 12) (fun i σ H' => ∃ (fo : Int) (l : Option V), σ = [some (.ref a), some (.int top), some (.int way), some (.int fo), l] ∧ 0 ≤ fo ∧ Fx a H H' ∧ Wl (n + 1 + i) H' a)
      ⟨0, none, rfl, by decide, f1, v1⟩ ?_ ?_⟩
    · rintro i σ H2 hi ⟨fo, l, rfl, p0, f2, v2⟩
      refine ⟨_, rfl, 10, 6, rfl, rfl, ⟨by decide, by decide, by decide⟩, fo, _, rfl, rfl, .inr ⟨by decide, by decide⟩, ?_⟩
      refine ⟨_, rfl, 10, 6, rfl, rfl, ⟨by decide, by decide, by decide⟩, a, _, n + 1 + i, rfl, by decide, by decide, v2, by omega, fun r H3 r0 r1 f3 v3 => ⟨_, _, rfl, rfl, ?_⟩⟩
      exact ⟨_, _, rfl, (by show 0 ≤ fo * 10 ^ 6 + r; omega), f2.trans f3, v3⟩
    · rintro σ H2 ⟨fo, l, rfl, p0, f2, v2⟩
      refine ⟨_, rfl, .inl ⟨_, rfl, _, rfl, _, _, rfl, rfl, _, _, rfl, rfl, (by show (0 : Int) < top + 1; omega), ?_⟩⟩
      refine q _ H2 (Int.emod_nonneg _ (by omega)) ?_ f2 (v2.mono (by omega))
      have := Int.emod_lt_of_pos fo (by omega : (0 : Int) < top + 1)
      show fo % (top + 1) ≤ top
      omega
end

section
variable {P : Program} {w : World} {K : PySem.W.Frag} {mg : Str → Option Value} {base : Heap} {C CP : Addr}
theorem ok_glines {f : Addr} {fd : FuncData} (F : Fun K "_law_lines" "_law_lines" s__law_lines f fd) (T : Txt K mg C CP) : FnOk P w K mg base CX0 1 f fd ["kinds"] spSheet := by
  refine F.ok sc__law_lines (fun vs H Q E h => ?_) (fun cdv A outer s H vs Q E hr h => ?_)
  · obtain ⟨t, bs, rfl, _⟩ := h
    rfl
  · obtain ⟨t, bs, rfl, hB, g, q⟩ := h
    obtain ⟨rs, e1, e2, e3⟩ := id hB
    refine ⟨_, (pss_one (ps_ret (pe_join pe_str (pe_lc (own := [("amount", 1), ("many", 2)]) (g := (gTup K 2 (gCons (gName 1) (gCons (gName 2) gNil)))) (tt := tYes) rfl sc__law_lines.nd (pi_tup (pv 0)) (blkOk_by (N := ["kinds", "amount", "many"]) (sc := defScope s__law_lines) (by decide +kernel)) (fun _ _ _ _ _ => (pg_tup (by rfl) (pgs_cons (pg_name (i := 1) sc__law_lines.nd rfl (Or.inl rfl)) (pgs_cons (pg_name (i := 2) sc__law_lines.nd rfl (Or.inl rfl)) pgs_nil)))) (fun _ _ _ _ _ => pts_nil) (fun _ _ _ _ _ => (pe_op op_add_str (pe_op op_add_str (pe_callTy call_str_int (by rfl) T.b_str (by decide +kernel) (pa_cons (pv 2) pa_nil)) pe_str) (pe_callTy call_str_int (by rfl) T.b_str (by decide +kernel) (pa_cons (pv 1) pa_nil)))))))), ?_⟩
    refine ⟨⟨_, rfl⟩, _, rfl, t, rfl, ⟨_, SqT.of e1⟩, fun D hD => lc_tup (K := K) (g := gTup K 2 (gCons (gName 1) (gCons (gName 2) gNil))) (tt := tYes) (xs := rs.map V.ref) (fun i H' => Same H H' ∧ H' D = some (.lst (((bs.take i).map lineK).map V.str))) ⟨same_new hD, upd_same⟩ (fun i H' _ ⟨s1, _⟩ => same_t s1 (SqT.of e1)) ?_ ?_⟩
    · rintro i v H1 hi ⟨s1, hd⟩
      obtain ⟨r', b, rfl, hr', hb⟩ := row_at e2 hi
      have hm := List.mem_of_getElem? hb
      have sh := g.short hm
      have hT := SqT.of (s1 _ _ (e3 i r' b hr' hb)) (K := K)
      have n1 : (Str.ofString (toString b.1)).length ≤ 76 := nI_len (k := 75) (by decide) sh.1
      have n2 : (Str.ofString (toString b.2)).length ≤ 76 := nI_len (k := 75) (by decide) sh.2
      have g1 := log_shortK (Nat.lt_trans sh.1 (by decide))
      have g2 := log_shortK (Nat.lt_trans sh.2 (by decide))
      refine ⟨r', _, rfl, hT, rfl, _, _, rfl, _, _, rfl, rfl, rfl, ?_⟩
      refine ⟨_, rfl, _, rfl, g2, _, _, rfl, rfl, (by rw [sizeLine_eq, lit_of]; omega), ?_⟩
      refine ⟨_, rfl, _, rfl, g1, _, _, rfl, rfl, (by rw [sizeLine_eq]; simp only [len_app, lit_of]; omega), ?_⟩
      refine ⟨_, hd, ?_, fun c o e => ?_, ?_⟩
      · rw [List.length_map, List.length_map, List.length_take, sizeLine_eq]
        have := g.len30
        omega
      · rw [upd_ne (ne_of_none e hD)]
        exact s1 _ _ e
      · rw [upd_same, List.take_add_one, hb, List.map_append, List.map_append]
        exact congrArg (fun z => some (HO.lst (_ ++ [V.str z]))) (lineK_add b)
    · rintro H1 ⟨s1, hd⟩
      rw [List.length_map, e2, List.take_length] at hd
      exact ⟨_, D, _, rfl, rfl, .inl (SqL.of hd), Nat.le_trans g.lines_len (by decide), q _ s1⟩
end

section
variable {P : Program} {w : World} {K : PySem.W.Frag} {mg : Str → Option Value} {base : Heap} {C CP : Addr}
theorem ok_gspell {f : Addr} {fd : FuncData} (F : Fun K "_law_spell" "_law_spell" s__law_spell f fd) (T : Txt K mg C CP) : FnOk P w K mg base CX0 1 f fd ["bands"] spPage := by
  refine F.ok sc__law_spell (fun vs H Q E h => ?_) (fun cdv A outer s H vs Q E hr h => ?_)
  · obtain ⟨t, bs, rfl, _⟩ := h
    rfl
  · obtain ⟨t, bs, rfl, hB, g, q⟩ := h
    obtain ⟨rs, e1, e2, e3⟩ := id hB
    refine ⟨_, (pss_cons (ps_setLc (i := 1) (own := [("band", 2)]) (g := gName 2) (tt := tYes) rfl sc__law_spell.nd rfl rfl (sw_true rfl rfl rfl (by decide +kernel)) (pi_tup (pv 0)) (blkOk_by (N := ["bands", "rows", "band"]) (sc := defScope s__law_spell) (by decide +kernel)) (fun _ _ _ _ _ => pg_name (i := 2) sc__law_spell.nd rfl (Or.inl rfl)) (fun _ _ _ _ _ => pts_nil) (fun _ _ _ _ _ => (pe_op op_add_str (pe_op op_add_str (pe_op op_add_str (pe_op op_add_str (pe_op op_add_str pe_str (pe_callTy call_str_int (by rfl) T.b_str (by decide +kernel) (pa_cons (pe_ix (ix_tupK (K := K) rfl) (pv 2) pe_int (fun _ _ => rfl)) pa_nil))) pe_str) (pe_callTy call_str_int (by rfl) T.b_str (by decide +kernel) (pa_cons (pe_ix (ix_tupK (K := K) rfl) (pv 2) pe_int (fun _ _ => rfl)) pa_nil))) pe_str) (pe_callTy call_str_int (by rfl) T.b_str (by decide +kernel) (pa_cons (pe_ix (ix_tupK (K := K) rfl) (pv 2) pe_int (fun _ _ => rfl)) pa_nil)))))
  (pss_one (ps_ret (pe_join pe_str (pv 1))))), ?_⟩
    refine ⟨_, rfl, t, rfl, ⟨_, SqT.of e1⟩, fun D hD => lc_tup (K := K) (xs := rs.map V.ref) (fun i H' => Same H H' ∧ H' D = some (.lst (((bs.take i).map lineOf).map V.str))) ⟨same_new hD, upd_same⟩ (fun i H' _ ⟨s1, _⟩ => same_t s1 (SqT.of e1)) ?_ ?_⟩
    · rintro i v H1 hi ⟨s1, hd⟩
      obtain ⟨r', b, rfl, hr', hb⟩ := band_at e2 hi
      have hm := List.mem_of_getElem? hb
      have sh := g.short hm
      have hT := SqT.of (s1 _ _ (e3 i r' b hr' hb)) (K := K)
      have n1 : (Str.ofString (toString b.1)).length ≤ 41 := nI_len (k := 40) (by decide) sh.1
      have n2 : (Str.ofString (toString b.2.1)).length ≤ 41 := nI_len (k := 40) (by decide) sh.2.1
      have n3 : (Str.ofString (toString b.2.2)).length ≤ 41 := nI_len (k := 40) (by decide) sh.2.2
      refine ⟨rfl, _, rfl, r', _, 0, _, rfl, rfl, hT, at0, ?_⟩
      refine ⟨_, rfl, log_short sh.1, _, _, rfl, rfl, (by rw [sizeLine_eq, lit_from]; omega), _, _, rfl, rfl, (by rw [sizeLine_eq]; simp only [len_app, lit_from, lit_value]; omega), ?_⟩
      refine ⟨_, rfl, r', _, 1, _, rfl, rfl, hT, at1, _, rfl, log_short sh.2.1, _, _, rfl, rfl, (by rw [sizeLine_eq]; simp only [len_app, lit_from, lit_value]; omega), _, _, rfl, rfl, (by rw [sizeLine_eq]; simp only [len_app, lit_from, lit_value, lit_step]; omega), ?_⟩
      refine ⟨_, rfl, r', _, 2, _, rfl, rfl, hT, at2, _, rfl, log_short sh.2.2, _, _, rfl, rfl, (by rw [sizeLine_eq]; simp only [len_app, lit_from, lit_value, lit_step]; omega), ?_⟩
      refine ⟨_, hd, ?_, fun c o e => ?_, ?_⟩
      · rw [List.length_map, List.length_map, List.length_take, sizeLine_eq]
        have := g.len8
        omega
      · rw [upd_ne (ne_of_none e hD)]
        exact s1 _ _ e
      · rw [upd_same, List.take_add_one, hb, List.map_append, List.map_append]
        exact congrArg (fun z => some (HO.lst (_ ++ [V.str z]))) (line_add b)
    · rintro H1 ⟨s1, hd⟩
      rw [List.length_map, e2, List.take_length] at hd
      exact ⟨⟨_, rfl⟩, _, rfl, _, D, _, rfl, rfl, .inl (SqL.of hd), Nat.le_trans g.lines_len (by decide), q _ s1⟩
end

section
variable {P : Program} {w : World} {K : PySem.W.Frag} {mg : Str → Option Value} {base : Heap} {C CP : Addr}
theorem ok_rows_of_gifts {f : Addr} {fd : FuncData} (F : Fun K "rows_of_gifts" "rows_of_gifts" s_rows_of_gifts f fd) (T : Txt K mg C CP) : FnOk P w K mg base CX0 1 f fd ["wanted"] spRowsG := by
  refine F.ok sc_rows_of_gifts (fun vs H Q E h => ?_) (fun cdv A outer s H vs Q E hr h => ?_)
  · obtain ⟨t, W, rfl, _⟩ := h
    rfl
  · obtain ⟨t, W, rfl, hW, l30, q⟩ := h
    refine ⟨_, (pss_cons (ps_set (i := 1) sc_rows_of_gifts.nd rfl (Or.inl rfl) (pe_lst pa_nil))
  (pss_cons (ps_set (i := 2) sc_rows_of_gifts.nd rfl (Or.inl rfl) (pe_lst pa_nil))
  (pss_cons (ps_for PassesOwn.never rfl (pi_list (pv 0)) (pg_tup (by rfl) (pgs_cons (pg_name (i := 3) sc_rows_of_gifts.nd rfl (Or.inl rfl)) (pgs_cons (pg_name (i := 4) sc_rows_of_gifts.nd rfl (Or.inl rfl)) (pgs_cons (pg_name (i := 5) sc_rows_of_gifts.nd rfl (Or.inl rfl)) pgs_nil))))
    (pss_cons (ps_set (i := 6) sc_rows_of_gifts.nd rfl (Or.inl rfl) (pe_lst pa_nil))
  (pss_cons (ps_for PassesOwn.never rfl (pi_list (pv 2)) (pg_tup (by rfl) (pgs_cons (pg_name (i := 7) sc_rows_of_gifts.nd rfl (Or.inl rfl)) (pgs_cons (pg_name (i := 8) sc_rows_of_gifts.nd rfl (Or.inl rfl)) pgs_nil)))
    (pss_cons (ps_set (i := 9) sc_rows_of_gifts.nd rfl (Or.inl rfl) (pe_callB (call_min2 rfl) (by rfl) T.b_min (by decide +kernel) (pa_cons (pv 4) (pa_cons (pv 8) pa_nil))))
  (pss_cons (ps_if (pt_cmpR op_gt (pv 9) pe_int (nomark _))
    (pss_one (ps_expr (pe_bm PySem.F.plainAttrs_list PySem.F.slot_list_append PySem.F.type_list_append mt_append (pv 1) (pa_cons (pe_tup (pa_cons (pv 3) (pa_cons (pv 7) (pa_cons (pv 9) pa_nil)))) pa_nil))))
    pss_nil)
  (pss_cons (ps_aug (i := 4) sc_rows_of_gifts.nd rfl (Or.inl rfl) (pv 9) ip_sub)
  (pss_one (ps_expr (pe_bm PySem.F.plainAttrs_list PySem.F.slot_list_append PySem.F.type_list_append mt_append (pv 6) (pa_cons (pe_tup (pa_cons (pv 7) (pa_cons (pe_op op_sub (pv 8) (pv 9)) pa_nil))) pa_nil))))))))
  (pss_one (ps_set (i := 2) sc_rows_of_gifts.nd rfl (Or.inl rfl) (pe_op op_cat (pv 6) (pe_lst (pa_cons (pe_tup (pa_cons (pv 3) (pa_cons (pv 5) pa_nil))) pa_nil))))))))
  (pss_one (ps_ret (pe_callTy call_tuple_of (by rfl) T.b_tuple (by decide +kernel) (pa_cons (pv 1) pa_nil))))))), ?_⟩
    obtain ⟨ts, e1, e2, e3⟩ := id hW
    have eR : RowsL tripT H ts W := ⟨e2, e3⟩
    refine ⟨(by show 0 ≤ sizeLine; decide), fun pr hpr => ⟨(by show 0 ≤ sizeLine; decide), fun pl0 hpl0 => ?_⟩⟩
    have x1 := same_new (o := .lst []) hpr
    have x2 := same_new (o := .lst []) hpl0
    have k1 := x2 _ _ (upd_at (o := .lst []) hpr)
    have k2 := upd_at (o := .lst []) hpl0
    have s01 := x1.trans x2
    have prn : ∀ {b : Addr} {o : HO}, H b = some o → b ≠ pr := fun e => ne_of_none e hpr
    have pne : pl0 ≠ pr := fun z => by
      rw [z, upd_same] at hpl0
      cases hpl0
    generalize (upd (upd H pr (.lst [])) pl0 (.lst [])) = H1 at *
    have e11 := s01 _ _ e1
    have eR1 := eR.same s01
    have tpr := prn e1
    refine ⟨_, rfl, t, rfl, ⟨_, SqL.of e11⟩, for_list (K := K) (xs := ts.map V.ref) (fun i σ H' => ∃ (pl : Addr) (rs ls : List Addr) (R : List (Int × Int × Int)) (L : List (Int × Int)) (x3 x4 x5 x6 x7 x8 x9 : Option V), σ = [some (.ref t), some (.ref pr), some (.ref pl), x3, x4, x5, x6, x7, x8, x9] ∧ Fx pr H1 H' ∧ pl ≠ pr ∧ H' pr = some (.lst (rs.map V.ref)) ∧ H' pl = some (.lst (ls.map V.ref)) ∧ RowsL tripT H' rs R ∧ RowsL pairT H' ls L ∧ L.length = i ∧ R.length ≤ 30 * i ∧ flowRows [] W = R ++ flowRows L (W.drop i))
      ⟨pl0, [], [], [], [], none, none, none, none, none, none, none, rfl, Fx.refl, pne, k1, k2, RowsL.nil, RowsL.nil, rfl, by simp, rfl⟩ (fun i σ H' _ ⟨_, _, _, _, _, _, _, _, _, _, _, _, _, f, _⟩ => SqL.of (f _ _ tpr e11)) ?_ ?_⟩
    · rintro i v σ H2 hi ⟨pl, rs, ls, R, L, x3, x4, x5, x6, x7, x8, x9, rfl, f2, np, hR, hL, rR, rL, lL, lR, eq⟩
      obtain ⟨r', w0, rfl, hr', hw⟩ := row_at e2 hi
      have il := (List.getElem?_eq_some_iff.mp hw).1
      have hT := SqT.of (f2 _ _ (prn (eR.at_ i r' w0 hr' hw)) (eR1.at_ i r' w0 hr' hw)) (K := K)
      have dw : W.drop i = w0 :: W.drop (i + 1) := by
        rw [List.drop_eq_getElem_cons il]
        congr 1
        exact (List.getElem?_eq_some_iff.mp hw).2
      rw [dw] at eq
      refine ⟨r', _, rfl, hT, rfl, _, _, rfl, _, _, rfl, _, _, rfl, rfl, ?_⟩
      refine ⟨(by show 0 ≤ sizeLine; decide), fun ps hps => ?_⟩
      have x3' := same_new (o := .lst []) hps
      have kps := upd_at (o := .lst []) hps
      have nps : ps ≠ pr := Ne.symm (ne_of_none hR hps)
      have npl : pl ≠ ps := ne_of_none hL hps
      have hR3 := x3' _ _ hR
      have hL3 := x3' _ _ hL
      have rR3 := rR.same x3'
      have rL3 := rL.same x3'
      have f3 := f2.trans (Fx.of_same x3')
      have lrn : ∀ (j : Nat) (r : Addr) (b : Int × Int), ls[j]? = some r → L[j]? = some b → r ≠ pr ∧ r ≠ ps := fun j r b h1 h2 => by
        have h := rL.at_ j r b h1 h2
        exact ⟨fun z => (by rw [z, hR] at h; cases h), ne_of_none h hps⟩
      generalize (upd H2 ps (.lst [])) = H3 at *
      refine ⟨_, rfl, pl, rfl, ⟨_, SqL.of hL3⟩, for_list (K := K) (xs := ls.map V.ref) (fun j σ H' => ∃ (rs' ss : List Addr) (dn st : List (Int × Int)) (gv : Int) (x7 x8 x9 : Option V), σ = [some (.ref t), some (.ref pr), some (.ref pl), some (.int w0.1), some (.int gv), some (.int w0.2.2), some (.ref ps), x7, x8, x9] ∧ (∀ b o, b ≠ pr → b ≠ ps → H3 b = some o → H' b = some o) ∧ H' pr = some (.lst (rs'.map V.ref)) ∧ H' ps = some (.lst (ss.map V.ref)) ∧ RowsL tripT H' rs' (R ++ dn.map fun y => (w0.1, y.1, y.2)) ∧ RowsL pairT H' ss st ∧ st.length = j ∧ dn.length ≤ j ∧ (give1 w0.2.1 L).1 = dn ++ (give1 gv (L.drop j)).1 ∧ (give1 w0.2.1 L).2 = st ++ (give1 gv (L.drop j)).2)
        ⟨rs, [], [], [], w0.2.1, _, _, _, rfl, fun b o _ _ e => e, hR3, kps, by simpa using rR3, RowsL.nil, rfl, Nat.le_refl _, rfl, rfl⟩ (fun j σ H' _ ⟨_, _, _, _, _, _, _, _, _, f, _⟩ => SqL.of (f _ _ np npl hL3)) ?_ ?_⟩
      · rintro j v σ H4 hj ⟨rs', ss, dn, st, gv, x7, x8, x9, rfl, f4, hR4, hS4, rR4, rS4, lst, ldn, eq1, eq2⟩
        obtain ⟨q', l0, rfl, hq', hl⟩ := row_at rL.len hj
        have jl := (List.getElem?_eq_some_iff.mp hl).1
        obtain ⟨n1, n2⟩ := lrn j q' l0 hq' hl
        have hq := SqT.of (f4 _ _ n1 n2 (rL3.at_ j q' l0 hq' hl)) (K := K)
        have dl : L.drop j = l0 :: L.drop (j + 1) := by
          rw [List.drop_eq_getElem_cons jl]
          congr 1
          exact (List.getElem?_eq_some_iff.mp hl).2
        rw [dl, give1_cons] at eq1 eq2
        dsimp only at eq1 eq2
        have em : (if l0.2 < gv then l0.2 else gv) = min gv l0.2 := by
          by_cases c : l0.2 < gv
          · rw [if_pos c]; omega
          · rw [if_neg c]; omega
        refine ⟨q', _, rfl, hq, rfl, _, _, rfl, _, _, rfl, rfl, ?_⟩
        refine ⟨_, rfl, _, rfl, _, _, rfl, ?_⟩
        rw [em]
        generalize min gv l0.2 = mm at *
        refine name_go ?_
        dsimp only
        refine seq_cut2 (fun σ' H' => ∃ (rs2 : List Addr) (dn2 : List (Int × Int)), σ' = [some (.ref t), some (.ref pr), some (.ref pl), some (.int w0.1), some (.int gv), some (.int w0.2.2), some (.ref ps), some (.int l0.1), some (.int l0.2), some (.int mm)] ∧ (∀ b o, b ≠ pr → b ≠ ps → H3 b = some o → H' b = some o) ∧ H' pr = some (.lst (rs2.map V.ref)) ∧ H' ps = some (.lst (ss.map V.ref)) ∧ RowsL tripT H' rs2 (R ++ dn2.map fun y => (w0.1, y.1, y.2)) ∧ RowsL pairT H' ss st ∧ dn2 = dn ++ (if mm > 0 then [(l0.1, mm)] else [])) (fun N hN => ?_) ?_
        · refine ⟨_, rfl, _, _, rfl, rfl, _, rfl, ite2 (fun c => ?_) (fun c => ?_)⟩
          · have c' : mm > 0 := of_decide_eq_true c
            refine ⟨_, rfl, .inl ⟨rfl, _, SqL.of hR4⟩, _, rfl, _, rfl, _, rfl, (by show 3 ≤ sizeLine; decide), fun e he => ?_⟩
            have xe := same_new (o := .tup [.int w0.1, .int l0.1, .int mm]) he
            have ke := upd_at (o := .tup [.int w0.1, .int l0.1, .int mm]) he
            have hR5 := xe _ _ hR4
            have hS5 := xe _ _ hS4
            have enr : e ≠ pr := Ne.symm (ne_of_none hR4 he)
            have ens : e ≠ ps := Ne.symm (ne_of_none hS4 he)
            have lrs := rR4.len
            rw [List.length_append, List.length_map] at lrs
            refine ⟨pr, _, _, rfl, rfl, hR5, ?_, hN _ _ ⟨rs' ++ [e], dn ++ [(l0.1, mm)], rfl, fun b o nb1 nb2 eb => ?_, ?_, ?_, ?_, (rS4.same xe).put hR5, by rw [if_pos c']⟩⟩
            · rw [List.length_map, sizeLine_eq]
              omega
            · rw [upd_ne nb1]
              exact xe _ _ (f4 b o nb1 nb2 eb)
            · rw [upd_same, List.map_append]
              rfl
            · rw [upd_ne nps]
              exact hS5
            · rw [List.map_append, ← List.append_assoc]
              refine ((rR4.same xe).put hR5).snoc ?_
              rw [upd_ne enr]
              exact ke
          · have c' : ¬ mm > 0 := fun z => c (decide_eq_true z)
            exact hN _ _ ⟨rs', dn, rfl, f4, hR4, hS4, rR4, rS4, by rw [if_neg c', List.append_nil]⟩
        · rintro σ' H5 ⟨rs2, dn2, rfl, f5, hR5, hS5, rR5, rS5, ed⟩
          refine ⟨_, rfl, _, rfl, _, _, rfl, rfl, ?_⟩
          refine ⟨_, rfl, .inl ⟨rfl, _, SqL.of hS5⟩, _, rfl, _, rfl, _, rfl, _, _, rfl, rfl, (by show 2 ≤ sizeLine; decide), fun e he => ?_⟩
          have xe := same_new (o := .tup [.int l0.1, .int (l0.2 - mm)]) he
          have ke := upd_at (o := .tup [.int l0.1, .int (l0.2 - mm)]) he
          have hR6 := xe _ _ hR5
          have hS6 := xe _ _ hS5
          have enr : e ≠ pr := Ne.symm (ne_of_none hR5 he)
          have ens : e ≠ ps := Ne.symm (ne_of_none hS5 he)
          have lss := rS5.len
          refine ⟨ps, _, _, rfl, rfl, hS6, ?_, ⟨rs2, ss ++ [e], dn2, st ++ [(l0.1, l0.2 - mm)], gv - mm, _, _, _, rfl, fun b o nb1 nb2 eb => ?_, ?_, ?_, (rR5.same xe).put hS6, ?_, by rw [List.length_append, lst]; rfl, ?_, ?_, ?_⟩⟩
          · rw [List.length_map, sizeLine_eq]
            omega
          · rw [upd_ne nb2]
            exact xe _ _ (f5 b o nb1 nb2 eb)
          · rw [upd_ne (Ne.symm nps)]
            exact hR6
          · rw [upd_same, List.map_append]
            rfl
          · refine ((rS5.same xe).put hS6).snoc ?_
            rw [upd_ne ens]
            exact ke
          · rw [ed, List.length_append]
            split
            · simp; omega
            · simp; omega
          · rw [eq1, ed, List.append_assoc]
          · rw [eq2, List.append_assoc]
            rfl
      · rintro σ H4 ⟨rs', ss, dn, st, gv, x7, x8, x9, rfl, f4, hR4, hS4, rR4, rS4, lst, ldn, eq1, eq2⟩
        have ll : ls.length = L.length := rL.len
        rw [List.length_map, ll, List.drop_length] at eq1 eq2
        rw [List.length_map] at lst ldn
        have d1 : (give1 w0.2.1 L).1 = dn := by rw [eq1]; simp [give1]
        have d2 : (give1 w0.2.1 L).2 = st := by rw [eq2]; simp [give1]
        refine ⟨_, rfl, _, rfl, _, rfl, (by show 2 ≤ sizeLine; decide), fun e he => ⟨(by show 1 ≤ sizeLine; decide), fun m hm => ?_⟩⟩
        have xe := same_new (o := .tup [.int w0.1, .int w0.2.2]) he
        have xm := same_new (o := .lst [.ref e]) hm
        have ke := xm _ _ (upd_at (o := .tup [.int w0.1, .int w0.2.2]) he)
        have km := upd_at (o := .lst [.ref e]) hm
        have S := xe.trans xm
        have lss := rS4.len
        refine ⟨ps, m, _, _, rfl, rfl, S _ _ hS4, km, ?_, fun o ho => ?_⟩
        · rw [List.length_map, sizeLine_eq]
          show ss.length + 1 ≤ _
          omega
        have xo := same_new (o := .lst (ss.map V.ref ++ [V.ref e])) ho
        have nop : o ≠ pr := Ne.symm (ne_of_none (S _ _ hR4) ho)
        refine ⟨o, rs', ss ++ [e], R ++ dn.map (fun y => (w0.1, y.1, y.2)), st ++ [(w0.1, w0.2.2)], _, _, _, _, _, _, _, rfl, ?_, nop, xo _ _ (S _ _ hR4), by rw [upd_same, List.map_append]; rfl, (rR4.same S).same xo, ?_, by rw [List.length_append, lst, ll, lL]; rfl, ?_, ?_⟩
        · intro b o' nb eb
          by_cases hb : b = ps
          · have h3 := f2 b o' nb eb
            rw [hb, hps] at h3
            cases h3
          · exact xo _ _ (S _ _ (f4 b o' nb hb (x3' _ _ (f2 b o' nb eb))))
        · refine ((rS4.same S).same xo).snoc ?_
          exact xo _ _ ke
        · rw [List.length_append, List.length_map]
          have : i < W.length := il
          omega
        · rw [eq, flow_cons, d1, d2, List.append_assoc]
    · rintro σ H2 ⟨pl, rs, ls, R, L, x3, x4, x5, x6, x7, x8, x9, rfl, f2, np, hR, hL, rR, rL, lL, lR, eq⟩
      rw [List.length_map, e2, List.drop_length] at eq
      have eq' : flowRows [] W = R := by rw [eq]; simp [flowRows]
      refine ⟨_, rfl, pr, _, rfl, .inl ⟨SqL.of hR, fun l hl => ?_⟩⟩
      have sl := same_new (o := .tup (rs.map V.ref)) hl
      refine q l _ (fun b o e => sl _ _ (f2 b o (prn e) (s01 _ _ e))) ?_
      rw [eq']
      exact (rR.same sl).tup upd_same
theorem ok_certify_gifts {f : Addr} {fd : FuncData} (F : Fun K "certify_gifts" "certify_gifts" s_certify_gifts f fd) (T : Txt K mg C CP) (d_gifts : Def P w K mg base "gifts" ["first", "second"] 6 (spGifts CP)) (d_Purse_kinds : PDef P w K mg base CP "kinds" 1 (getSp CP "_kinds"))
    (d_gives_and_gets : Def P w K mg base "gives_and_gets" ["kinds", "others"] 4 spGivesGets) (d_rows_of_gifts : Def P w K mg base "rows_of_gifts" ["wanted"] 1 spRowsG) (d_Purse___str__ : MDef P w K mg base CP "__str__" ["self"] 2 (spStrK CP)) : FnOk P w K mg base CX0 7 f fd ["first", "second"] (spCertG CP) := by
  refine F.ok sc_certify_gifts (fun vs H Q E h => ?_) (fun cdv A outer s H vs Q E hr h => ?_)
  · obtain ⟨r, r2, ks, ms, rfl, _⟩ := h
    rfl
  · obtain ⟨r, r2, ks, ms, rfl, R1, R2, q⟩ := h
    refine ⟨_, (pss_cons (ps_set (i := 2) sc_certify_gifts.nd rfl (Or.inl rfl) (pe_def d_gifts (hr.mono (by decide)) (by rfl) (pa_cons (pv 0) (pa_cons (pv 1) pa_nil))))
  (pss_cons (ps_if (pt_cmpR op_isN (pv 2) pe_non (nomark _))
    (pss_one (ps_ret pe_non))
    pss_nil)
  (pss_cons (ps_set (i := 3) sc_certify_gifts.nd rfl (Or.inl rfl) (pe_def d_rows_of_gifts (hr.mono (by decide)) (by rfl) (pa_cons (pe_def d_gives_and_gets (hr.mono (by decide)) (by rfl) (pa_cons (pe_propD d_Purse_kinds T.clP (pv 0) (hr.mono (by decide))) (pa_cons (pe_propD d_Purse_kinds T.clP (pv 1) (hr.mono (by decide))) pa_nil))) pa_nil)))
  (pss_one (ps_ret (pe_tup (pa_cons (pe_tup (pa_cons pe_str (pa_cons (pe_callTy (call_strOwn d_Purse___str__ (hr.mono (by decide))) (by rfl) T.b_str (by decide +kernel) (pa_cons (pv 0) pa_nil)) (pa_cons (pe_callTy (call_strOwn d_Purse___str__ (hr.mono (by decide))) (by rfl) T.b_str (by decide +kernel) (pa_cons (pv 1) pa_nil)) (pa_cons (pv 2) pa_nil))))) (pa_cons (pv 3) pa_nil)))))))), ?_⟩
    refine ⟨_, rfl, _, rfl, r, r2, ks, ms, rfl, R1, R2, fun H1 s1 => ?_⟩
    cases eg : giftOf ks ms with
    | none =>
      exact ⟨_, rfl, rfl, _, rfl, ite2 (fun _ => q _ _ s1 (.inl ⟨eg, rfl⟩)) (fun z => absurd (by decide) z)⟩
    | some v =>
      obtain ⟨dx, t, h1, hB, g⟩ := id R1
      obtain ⟨dy, u, h2, hC, g'⟩ := id R2
      have g1 := s1 _ _ h1
      have g2 := s1 _ _ h2
      have h2' := eg
      unfold giftOf at h2'
      have hp : peopleOf ks = peopleOf ms := by
        split at h2'
        · rename_i c; exact c.1
        · cases h2'
      refine ⟨_, rfl, rfl, _, rfl, ite2 (fun z => absurd z (by simp [optV])) (fun _ => ?_)⟩
      refine ⟨_, rfl, r, dx, _, rfl, g1, ⟨r, dx, _, _, rfl, g1, rfl, _, rfl, r2, dy, _, rfl, g2, ⟨r2, dy, _, _, rfl, g2, rfl, ?_⟩⟩⟩
      refine ⟨t, u, ks, ms, rfl, hB.same s1, g, hC.same s1, g', hp, fun p H2 es hp2 s2 hm l60 hW => ?_⟩
      refine ⟨p, _, rfl, hW, by rw [List.length_map]; exact g.len30, fun z H3 s3 hZ => ?_⟩
      have s13 := s1.trans (s2.trans s3)
      refine ⟨_, rfl, r, dx, _, rfl, s13 _ _ h1, ⟨r, ks, rfl, R1.same s13, fun H4 s4 => ⟨_, rfl, _, rfl, r2, dy, _, rfl, s4 _ _ (s13 _ _ h2), ⟨r2, ms, rfl, (R2.same s13).same s4, fun H5 s5 => ⟨_, rfl, _, rfl, (by show 4 ≤ sizeLine; decide), fun c hc => ⟨_, rfl, (by show 2 ≤ sizeLine; decide), fun o ho => ?_⟩⟩⟩⟩⟩⟩
      have s45 := s4.trans s5
      have kc := upd_at (o := .tup [.str "gifts", .str (sheetOf ks), .str (sheetOf ms), .int v]) hc
      have xc := same_new (o := .tup [.str "gifts", .str (sheetOf ks), .str (sheetOf ms), .int v]) hc
      have xo := same_new (o := .tup [.ref c, .ref z]) ho
      exact q _ _ (((s13.trans s45).trans xc).trans xo) (.inr ⟨o, c, z, v, _, rfl, eg, ⟨es, hm, rfl⟩, upd_same, xo _ _ kc, hZ.same ((s45.trans xc).trans xo)⟩)
theorem ok_is_gift {f : Addr} {fd : FuncData} (F : Fun K "is_gift" "is_gift" s_is_gift f fd) (T : Txt K mg C CP) (d_are_integers : Def P w K mg base "are_integers" ["value", "many"] 2 (spAreInts K)) : FnOk P w K mg base CX0 3 f fd ["row", "amounts"] (spIsGift K) := by
  refine F.ok sc_is_gift (fun vs H Q E h => ?_) (fun cdv A outer s H vs Q E hr h => ?_)
  · obtain ⟨r, p, x, am, rfl, _⟩ := h
    rfl
  · obtain ⟨r, p, x, am, rfl, hr', hp, l30, q⟩ := h
    refine ⟨_, (pss_cons (ps_if (pt_not (pt_val (pe_def d_are_integers (hr.mono (by decide)) (by rfl) (pa_cons (pv 0) (pa_cons pe_int pa_nil)))))
    (pss_one (ps_ret pe_bl))
    pss_nil)
  (pss_cons (ps_asg (pv 0) (pg_tup (by rfl) (pgs_cons (pg_name (i := 2) sc_is_gift.nd rfl (Or.inl rfl)) (pgs_cons (pg_name (i := 3) sc_is_gift.nd rfl (Or.inl rfl)) (pgs_cons (pg_name (i := 4) sc_is_gift.nd rfl (Or.inl rfl)) pgs_nil)))))
  (pss_one (ps_ret (pe_and (pe_cmpR op_in_seq (pv 2) (pv 1) (by with_unfolding_all rfl)) (pe_and (pe_cmpR op_in_seq (pv 3) (pv 1) (by with_unfolding_all rfl)) (pe_and (pe_cmpR op_lt (pv 3) (pv 2) (nomark _)) (pe_one (pe_cmpR op_ge (pv 4) pe_int (nomark _)))))))))), ?_⟩
    refine ⟨_, rfl, .ref r, 3, some [x.1, x.2.1, x.2.2], rfl, .nums (ns := [x.1, x.2.1, x.2.2]) hr' (by simp), fun H1 s1 => ?_⟩
    refine ⟨_, rfl, ite2 (fun z => absurd z (by simp [intsAns])) (fun _ => ?_)⟩
    have hT := same_t s1 hr'
    have hp1 := s1 _ _ hp
    have fl : (am.map V.int).all flatV = true := by
      rw [List.all_eq_true]
      intro y hy
      obtain ⟨z, _, rfl⟩ := List.mem_map.mp hy
      rfl
    have iv : ∀ z : Int, inV (.int z) (am.map V.int) = decide (z ∈ am) := fun z => inV_ints z am
    refine ⟨_, rfl, r, _, rfl, hT, rfl, _, _, rfl, _, _, rfl, _, _, rfl, rfl, ?_⟩
    have q' := q H1 s1
    unfold giftB at q'
    refine ⟨_, rfl, _, rfl, p, _, rfl, .inl (SqL.of hp1), rfl, fl, ?_⟩
    rw [if_neg (by decide), iv]
    cases c1 : decide (x.1 ∈ am) with
    | false => rw [c1] at q'; exact ⟨_, rfl, iteF q'⟩
    | true =>
      rw [c1] at q'
      refine ⟨_, rfl, iteT ⟨_, rfl, _, rfl, p, _, rfl, .inl (SqL.of hp1), rfl, fl, ?_⟩⟩
      rw [if_neg (by decide), iv]
      cases c2 : decide (x.2.1 ∈ am) with
      | false => rw [c2] at q'; exact ⟨_, rfl, iteF q'⟩
      | true =>
        rw [c2] at q'
        refine ⟨_, rfl, iteT ⟨_, rfl, _, rfl, _, _, rfl, rfl, ⟨decide (x.2.1 < x.1), rfl, ?_⟩⟩⟩
        cases c3 : decide (x.2.1 < x.1) with
        | false => rw [c3] at q'; exact iteF q'
        | true =>
          rw [c3] at q'
          exact iteT ⟨_, rfl, _, _, rfl, rfl, q'⟩
theorem ok_sum_at {f : Addr} {fd : FuncData} (F : Fun K "sum_at" "sum_at" s_sum_at f fd) (T : Txt K mg C CP) : FnOk P w K mg base CX0 1 f fd ["rows", "place", "amount"] (spSumAt K) := by
  refine F.ok sc_sum_at (fun vs H Q E h => ?_) (fun cdv A outer s H vs Q E hr h => ?_)
  · obtain ⟨t, R, pl, a, rfl, _⟩ := h
    rfl
  · obtain ⟨t, R, pl, a, rfl, hR, lR, hpl, q⟩ := h
    refine ⟨_, (pss_one (ps_ret (pe_callB (cr_sum rfl) (by rfl) T.b_sum (by decide +kernel) (pa_cons (pe_lc (own := [("row", 3)]) (g := gName 3)  rfl sc_sum_at.nd (pi_tup (pv 0)) (blkOk_by (N := ["rows", "place", "amount", "row"]) (sc := defScope s_sum_at) (by decide +kernel)) (fun _ _ _ _ _ => pg_name (i := 3) sc_sum_at.nd rfl (Or.inl rfl)) (fun _ _ _ _ _ => pts_one (pt_cmpR op_eq (pe_ix (ix_tupK (K := K) rfl) (pv 3) (pv 1) (fun _ _ => rfl)) (pv 2) (nomark _))) (fun _ _ _ _ _ => (pe_ix (ix_tupK (K := K) rfl) (pv 3) pe_int (fun _ _ => rfl)))) pa_nil)))), ?_⟩
    obtain ⟨ts, e1, eR⟩ := hR.rows
    have e2 := eR.len
    refine ⟨_, rfl, t, rfl, ⟨_, SqT.of e1⟩, fun D hD => lc_tup (K := K) (xs := ts.map V.ref) (fun i H' => Same H H' ∧ H' D = some (.lst ((((R.take i).filter fun x => decide ((if pl = 0 then x.1 else x.2.1) = a)).map fun x => x.2.2).map V.int))) ⟨same_new hD, upd_same⟩ (fun i H' _ ⟨s1, _⟩ => same_t s1 (SqT.of e1)) ?_ ?_⟩
    · rintro i v H' hi ⟨s5, hd⟩
      obtain ⟨r', b, rfl, hr', hb'⟩ := row_at e2 hi
      have hT := SqT.of (s5 _ _ (eR.at_ i r' b hr' hb')) (K := K)
      have il := (List.getElem?_eq_some_iff.mp hb').1
      have get : atI (tripT b) pl = some (.int (if pl = 0 then b.1 else b.2.1)) := by
        rcases hpl with e | e
        · rw [e]; rfl
        · rw [e]; rfl
      refine ⟨rfl, _, rfl, _, rfl, r', _, _, _, rfl, rfl, hT, get, _, rfl, rfl, _, rfl, ite2 (fun c => ?_) (fun c => ?_)⟩
      · have c' : (if pl = 0 then b.1 else b.2.1) = a := by simpa using c
        refine ⟨_, rfl, r', _, 2, _, rfl, rfl, hT, rfl, _, hd, ?_, fun c' o e => ?_, ?_⟩
        · rw [List.length_map, List.length_map, sizeLine_eq]
          have := List.length_filter_le (fun x : Int × Int × Int => decide ((if pl = 0 then x.1 else x.2.1) = a)) (R.take i)
          rw [List.length_take] at this
          omega
        · rw [upd_ne (ne_of_none e hD)]
          exact s5 _ _ e
        · rw [upd_same, take_snoc hb', List.filter_append, List.map_append, List.map_append]
          have f1 : [b].filter (fun x : Int × Int × Int => decide ((if pl = 0 then x.1 else x.2.1) = a)) = [b] := by
            rw [List.filter_cons, decide_eq_true c']
            rfl
          rw [f1]
          rfl
      · have c' : ¬ (if pl = 0 then b.1 else b.2.1) = a := fun z => c (by rw [z]; simp)
        refine ⟨s5, ?_⟩
        rw [take_snoc hb', List.filter_append]
        have f1 : [b].filter (fun x : Int × Int × Int => decide ((if pl = 0 then x.1 else x.2.1) = a)) = [] := by
          rw [List.filter_cons, decide_eq_false c']
          rfl
        rw [f1, List.append_nil]
        exact hd
    rintro H1 ⟨s1, hd⟩
    rw [List.length_map, e2, List.take_length] at hd
    refine ⟨D, _, rfl, SqL.of hd, ?_⟩
    have q' := q H1 s1
    have e : (if pl = 0 then sumG R a else sumT R a) = (((R.filter fun x => decide ((if pl = 0 then x.1 else x.2.1) = a)).map fun x => x.2.2)).sum := by
      rcases hpl with e | e
      · rw [e]; rfl
      · rw [e]; rfl
    rw [e] at q'
    exact q'
theorem ok_are_gifts {f : Addr} {fd : FuncData} (F : Fun K "are_gifts" "are_gifts" s_are_gifts f fd) (T : Txt K mg C CP) (d_is_tuple : Def P w K mg base "is_tuple" ["value"] 1 (spIsTy K "tuple")) (d_is_gift : Def P w K mg base "is_gift" ["row", "amounts"] 3 (spIsGift K)) (d_sum_at : Def P w K mg base "sum_at" ["rows", "place", "amount"] 1 (spSumAt K)) :
    FnOk P w K mg base CX0 4 f fd ["rows", "wanted"] (spAreGifts K) := by
  refine F.ok sc_are_gifts (fun vs H Q E h => ?_) (fun cdv A outer s H vs Q E hr h => ?_)
  · obtain ⟨t, u, R, W, rfl, _⟩ := h
    rfl
  · obtain ⟨t, u, R, W, rfl, hR, lR, hW, lW, q⟩ := h
    refine ⟨_, (pss_cons (ps_set (i := 2) sc_are_gifts.nd rfl (Or.inr rfl) (pe_lc (own := [("amount", 3), ("gives", 4), ("gets", 5)]) (g := (gTup K 3 (gCons (gName 3) (gCons (gName 4) (gCons (gName 5) gNil))))) (tt := tYes) rfl sc_are_gifts.nd (pi_list (pv 1)) (blkOk_by (N := ["rows", "wanted", "amounts", "amount", "gives", "gets", "row", "pairs", "giver", "taker", "many", "one", "other"]) (sc := defScope s_are_gifts) (by decide +kernel)) (fun _ _ _ _ _ => (pg_tup (by rfl) (pgs_cons (pg_name (i := 3) sc_are_gifts.nd rfl (Or.inl rfl)) (pgs_cons (pg_name (i := 4) sc_are_gifts.nd rfl (Or.inl rfl)) (pgs_cons (pg_name (i := 5) sc_are_gifts.nd rfl (Or.inl rfl)) pgs_nil))))) (fun _ _ _ _ _ => pts_nil) (fun _ _ _ _ _ => (pv 3))))
  (pss_cons (ps_if (PW.pt (pw_or (pt_not (pt_val (pe_def d_is_tuple (hr.mono (by decide)) (by rfl) (pa_cons (pv 0) pa_nil)))) (pw_or1 (pt_not (pt_val (pe_callB (cr_all rfl) (by rfl) T.b_all (by decide +kernel) (pa_cons (pe_lc (own := [("row", 6)]) (g := gName 6) (tt := tYes) rfl sc_are_gifts.nd (pi_tup (pv 0)) (blkOk_by (N := ["rows", "wanted", "amounts", "amount", "gives", "gets", "row", "pairs", "giver", "taker", "many", "one", "other"]) (sc := defScope s_are_gifts) (by decide +kernel)) (fun _ _ _ _ _ => pg_name (i := 6) sc_are_gifts.nd rfl (Or.inl rfl)) (fun _ _ _ _ _ => pts_nil) (fun _ _ _ _ _ => (pe_def d_is_gift (hr.mono (by decide)) (by rfl) (pa_cons (pv 6) (pa_cons (pv 2) pa_nil))))) pa_nil)))))))
    (pss_one (ps_ret pe_bl))
    pss_nil)
  (pss_cons (ps_setLc (i := 7) (own := [("giver", 8), ("taker", 9), ("many", 10)]) (g := (gTup K 3 (gCons (gName 8) (gCons (gName 9) (gCons (gName 10) gNil))))) (tt := tYes) rfl sc_are_gifts.nd rfl rfl (sw_true rfl rfl rfl (by decide +kernel)) (pi_tup (pv 0)) (blkOk_by (N := ["rows", "wanted", "amounts", "amount", "gives", "gets", "row", "pairs", "giver", "taker", "many", "one", "other"]) (sc := defScope s_are_gifts) (by decide +kernel)) (fun _ _ _ _ _ => (pg_tup (by rfl) (pgs_cons (pg_name (i := 8) sc_are_gifts.nd rfl (Or.inl rfl)) (pgs_cons (pg_name (i := 9) sc_are_gifts.nd rfl (Or.inl rfl)) (pgs_cons (pg_name (i := 10) sc_are_gifts.nd rfl (Or.inl rfl)) pgs_nil))))) (fun _ _ _ _ _ => pts_nil) (fun _ _ _ _ _ => (pe_tup (pa_cons (pv 8) (pa_cons (pv 9) pa_nil)))))
  (pss_cons (ps_if (pt_not (pt_val (pe_callB (cr_all rfl) (by rfl) T.b_all (by decide +kernel) (pa_cons (pe_lc (own := [("one", 11), ("other", 12)]) (g := (gTup K 2 (gCons (gName 11) (gCons (gName 12) gNil)))) (tt := tYes) rfl sc_are_gifts.nd (RZ.pi_zipA (by rfl) T.b_zip (pa_cons (pv 7) (pa_cons (pe_slice sl_list (pv 7) (po_some pe_int) po_none) pa_nil))) (blkOk_by (N := ["rows", "wanted", "amounts", "amount", "gives", "gets", "row", "pairs", "giver", "taker", "many", "one", "other"]) (sc := defScope s_are_gifts) (by decide +kernel)) (fun _ _ _ _ _ => (pg_tup (by rfl) (pgs_cons (pg_name (i := 11) sc_are_gifts.nd rfl (Or.inl rfl)) (pgs_cons (pg_name (i := 12) sc_are_gifts.nd rfl (Or.inl rfl)) pgs_nil)))) (fun _ _ _ _ _ => pts_nil) (fun _ _ _ _ _ => (pe_cmpR (op_ltTK (K := K) rfl hr.units0) (pv 11) (pv 12) (nomark _)))) pa_nil))))
    (pss_one (ps_ret pe_bl))
    pss_nil)
  (pss_one (ps_ret (pe_cmpR (op_eqD hr.units) (pv 1) (pe_lc (own := [("amount", 3)]) (g := gName 3) (tt := tYes) rfl sc_are_gifts.nd (pi_list (pv 2)) (blkOk_by (N := ["rows", "wanted", "amounts", "amount", "gives", "gets", "row", "pairs", "giver", "taker", "many", "one", "other"]) (sc := defScope s_are_gifts) (by decide +kernel)) (fun _ _ _ _ _ => pg_name (i := 3) sc_are_gifts.nd rfl (Or.inl rfl)) (fun _ _ _ _ _ => pts_nil) (fun _ _ _ _ _ => (pe_tup (pa_cons (pv 3) (pa_cons (pe_def d_sum_at (hr.mono (by decide)) (by rfl) (pa_cons (pv 0) (pa_cons pe_int (pa_cons (pv 3) pa_nil)))) (pa_cons (pe_def d_sum_at (hr.mono (by decide)) (by rfl) (pa_cons (pv 0) (pa_cons pe_int (pa_cons (pv 3) pa_nil)))) pa_nil)))))) (nomark _)))))))), ?_⟩
    obtain ⟨ts, e1, eR⟩ := hR.rows
    have e2 := eR.len
    obtain ⟨us, w1, w2, w3⟩ := id hW
    have wR : RowsL tripT H us W := ⟨w2, w3⟩
    refine ⟨_, rfl, u, rfl, ⟨_, SqL.of w1⟩, fun D hD => lc_list (K := K) (g := gTup K 3 (gCons (gName 3) (gCons (gName 4) (gCons (gName 5) gNil)))) (tt := tYes) (xs := us.map V.ref) (fun i H' => Same H H' ∧ H' D = some (.lst (((W.take i).map fun x => x.1).map V.int))) ⟨same_new hD, upd_same⟩ (fun i H' _ ⟨s1, _⟩ => SqL.of (s1 _ _ w1)) ?_ ?_⟩
    · rintro i v H' hi ⟨s5, hd⟩
      obtain ⟨r', b, rfl, hr', hb'⟩ := row_at w2 hi
      have hT := SqT.of (s5 _ _ (wR.at_ i r' b hr' hb')) (K := K)
      have il := (List.getElem?_eq_some_iff.mp hb').1
      refine ⟨r', _, rfl, hT, rfl, _, _, rfl, _, _, rfl, _, _, rfl, rfl, rfl, _, rfl, _, hd, ?_, fun c' o e => ?_, ?_⟩
      · rw [List.length_map, List.length_map, List.length_take, sizeLine_eq]
        omega
      · rw [upd_ne (ne_of_none e hD)]
        exact s5 _ _ e
      · rw [upd_same, take_snoc hb', List.map_append, List.map_append]
        rfl
    rintro H1 ⟨s1, hd⟩
    rw [List.length_map, w2, List.take_length] at hd
    have lam : (W.map fun x => x.1).length ≤ 30 := by rw [List.length_map]; exact lW
    generalize ham : (W.map fun x => x.1) = am at *
    have e11 := s1 _ _ e1
    refine ⟨_, rfl, _, _, rfl, .tup (SqT.of e11), ?_⟩
    refine ⟨_, rfl, ite2 (fun z => absurd z (by decide)) (fun _ => ?_)⟩
    refine ⟨_, rfl, t, rfl, ⟨_, SqT.of e11⟩, fun D2 hD2 => lc_tup (K := K) (tt := tYes) (xs := ts.map V.ref) (fun i H' => Same H1 H' ∧ H' D2 = some (.lst (((R.take i).map fun x => giftB x am).map V.bl))) ⟨same_new hD2, upd_same⟩ (fun i H' _ ⟨s1, _⟩ => same_t s1 (SqT.of e11)) ?_ ?_⟩
    · rintro i v H' hi ⟨s5, hd2⟩
      obtain ⟨r', b, rfl, hr', hb'⟩ := row_at e2 hi
      have hT := SqT.of (s5 _ _ (s1 _ _ (eR.at_ i r' b hr' hb'))) (K := K)
      have il := (List.getElem?_eq_some_iff.mp hb').1
      refine ⟨rfl, _, rfl, _, rfl, r', D, b, am, rfl, hT, s5 _ _ hd, lam, fun H3 s3 => ?_⟩
      refine ⟨_, s3 _ _ hd2, ?_, fun c' o e => ?_, ?_⟩
      · rw [List.length_map, List.length_map, List.length_take, sizeLine_eq]
        omega
      · rw [upd_ne (ne_of_none e hD2)]
        exact s3 _ _ (s5 _ _ e)
      · rw [upd_same, take_snoc hb', List.map_append, List.map_append]
        rfl
    rintro H2 ⟨s2, hd2⟩
    rw [List.length_map, e2, List.take_length] at hd2
    refine ⟨D2, _, rfl, SqL.of hd2, ?_⟩
    have s02 := s1.trans s2
    have q1 : ∀ H' b, Same H H' → b = giftsB R W → Q (.bl b) H' := fun H' b s' e => by rw [e]; exact q H' s'
    unfold giftsB at q1
    rw [ham] at q1
    have eal : (R.map fun x => giftB x am).all id = R.all fun x => giftB x am := by rw [List.all_map]; rfl
    rw [eal]
    cases call : (R.all fun x => giftB x am) with
    | false =>
      rw [call] at q1
      exact ⟨_, rfl, ite2 (fun _ => q1 H2 false s02 rfl) (fun z => absurd rfl z)⟩
    | true =>
      rw [call, Bool.true_and] at q1
      refine ⟨_, rfl, ite2 (fun z => absurd z (by decide)) (fun _ => ?_)⟩
      have e12 := s02 _ _ e1
      have hd12 := s2 _ _ hd
      refine ⟨_, rfl, t, rfl, ⟨_, SqT.of e12⟩, fun D3 hD3 => lc_tup (K := K) (g := gTup K 3 (gCons (gName 8) (gCons (gName 9) (gCons (gName 10) gNil)))) (tt := tYes) (xs := ts.map V.ref) (fun i H' => Same H2 H' ∧ ∃ ps : List Addr, H' D3 = some (.lst (ps.map V.ref)) ∧ RowsL pairT H' ps ((R.take i).map fun x => (x.1, x.2.1))) ⟨same_new hD3, [], upd_same, RowsL.nil⟩ (fun i H' _ ⟨s1, _⟩ => same_t s1 (SqT.of e12)) ?_ ?_⟩
      · rintro i v H' hi ⟨s5, ps, hd3, rP⟩
        obtain ⟨r', b, rfl, hr', hb'⟩ := row_at e2 hi
        have hT := SqT.of (s5 _ _ (s02 _ _ (eR.at_ i r' b hr' hb'))) (K := K)
        have il := (List.getElem?_eq_some_iff.mp hb').1
        have lp := rP.len
        rw [List.length_map, List.length_take] at lp
        refine ⟨r', _, rfl, hT, rfl, _, _, rfl, _, _, rfl, _, _, rfl, rfl, rfl, _, rfl, _, rfl, (by show 2 ≤ sizeLine; decide), fun e he => ⟨_, same_new he _ _ hd3, ?_, fun c' o eo => ?_, ps ++ [e], ?_, ?_⟩⟩
        · rw [List.length_map, sizeLine_eq]
          omega
        · rw [upd_ne (ne_of_none eo hD3)]
          exact same_new he _ _ (s5 _ _ eo)
        · rw [upd_same, List.map_append]
          rfl
        · rw [take_snoc hb', List.map_append]
          have ned : e ≠ D3 := Ne.symm (ne_of_none hd3 he)
          refine ((rP.same (same_new he)).put (same_new he _ _ hd3)).snoc ?_
          rw [upd_ne ned]
          exact upd_same
      rintro H3 ⟨s3, ps, hd3, rP⟩
      rw [List.length_map, e2, List.take_length] at rP
      have lp := rP.len
      rw [List.length_map] at lp
      have s03 := s02.trans s3
      refine name_go ?_
      dsimp only
      refine ⟨_, rfl, _, rfl, 1, rfl, D3, _, rfl, SqL.of hd3, fun p hp => ?_⟩
      rw [cut_one, ← List.map_drop]
      have sp := same_new (o := .lst ((ps.drop 1).map V.ref)) hp
      have kp := upd_at (o := .lst ((ps.drop 1).map V.ref)) hp
      have hd4 := sp _ _ hd3
      have rP4 := rP.same sp
      have s04 := s03.trans sp
      have hd14 := sp _ _ (s3 _ _ hd12)
      generalize (upd H3 p (.lst ((ps.drop 1).map V.ref))) = H4 at *
      refine ⟨D3, p, ps.map V.ref, (ps.drop 1).map V.ref, rfl, .inl ⟨SqL.of hd4, SqL.of kp, fun D4 hD4 => lc_it (walk_zip (K := K) (a := D3) (b := p) (xs := ps.map V.ref) (ys := (ps.drop 1).map V.ref) (n := min (ps.map V.ref).length ((ps.drop 1).map V.ref).length) rfl) (fun i H' => Same H4 H' ∧ H' D4 = some (.lst (((lexL R).take i).map V.bl))) ⟨same_new hD4, upd_same⟩ (fun i H' _ ⟨s1, _⟩ => ⟨SqL.of (s1 _ _ hd4), SqL.of (s1 _ _ kp)⟩) ?_ ?_⟩⟩
      · rintro i v H5 H6 hi ⟨s5, hd5⟩ ⟨T1, xv, yv, rfl, hT1, rfl, hx, hy⟩
        have hx' : (ps.map V.ref)[i]? = some xv := hx
        have hy' : ((ps.drop 1).map V.ref)[i]? = some yv := hy
        obtain ⟨r1, rfl, g1⟩ := row_get (H := H) hx'
        obtain ⟨r2, rfl, g2⟩ := row_get (H := H) hy'
        rw [List.getElem?_drop] at g2
        have i1 := (List.getElem?_eq_some_iff.mp g1).1
        have i2 := (List.getElem?_eq_some_iff.mp g2).1
        obtain ⟨b, hb⟩ : ∃ b, R[i]? = some b := ⟨R[i]'(by omega), List.getElem?_eq_getElem _⟩
        obtain ⟨c, hc⟩ : ∃ c, R[1 + i]? = some c := ⟨R[1 + i]'(by omega), List.getElem?_eq_getElem _⟩
        have sT := same_new (o := .tup [V.ref r1, V.ref r2]) hT1
        have k1 := SqT.of (sT _ _ (s5 _ _ (rP4.at_ i r1 (b.1, b.2.1) g1 (by rw [List.getElem?_map, hb]; rfl)))) (K := K)
        have k2 := SqT.of (sT _ _ (s5 _ _ (rP4.at_ (1 + i) r2 (c.1, c.2.1) g2 (by rw [List.getElem?_map, hc]; rfl)))) (K := K)
        have lx : (lexL R)[i]? = some (decide (b.1 < c.1) || (decide (b.1 = c.1) && decide (b.2.1 < c.2.1))) := by
          unfold lexL
          rw [List.getElem?_map]
          have : (R.zip (R.drop 1))[i]? = some (b, c) := by
            rw [List.getElem?_zip_eq_some]
            exact ⟨hb, by rw [List.getElem?_drop]; exact hc⟩
          rw [this]
          rfl
        have ll : ((lexL R).take i).length ≤ 1000 := by
          unfold lexL
          rw [List.length_take, List.length_map, List.length_zip]
          omega
        refine ⟨T1, _, rfl, SqT.of upd_same, rfl, _, _, rfl, _, _, rfl, rfl, rfl, _, rfl, _, rfl, r1, r2, [b.1, b.2.1], [c.1, c.2.1], rfl, rfl, k1, k2, _, sT _ _ hd5, ?_, fun c' o eo => ?_, ?_⟩
        · rw [List.length_map, sizeLine_eq]
          omega
        · rw [upd_ne (ne_of_none eo hD4)]
          exact sT _ _ (s5 _ _ eo)
        · rw [upd_same, take_snoc lx, List.map_append, lex2]
          rfl
      rintro H5 ⟨s5, hd5⟩
      have lall : (lexL R).take (min (ps.map V.ref).length ((ps.drop 1).map V.ref).length) = lexL R := List.take_of_length_le (by
        unfold lexL
        rw [List.length_map, List.length_zip, List.length_map, List.length_map, List.length_drop, List.length_drop, lp]
        exact Nat.le_refl _)
      rw [lall] at hd5
      refine ⟨D4, _, rfl, SqL.of hd5, ?_⟩
      rw [lexL_all]
      have s05 := s04.trans s5
      cases cl : lexB R with
      | false =>
        rw [cl] at q1
        exact ⟨_, rfl, ite2 (fun _ => q1 H5 false s05 rfl) (fun z => absurd rfl z)⟩
      | true =>
        rw [cl, Bool.true_and] at q1
        refine ⟨_, rfl, ite2 (fun z => absurd z (by decide)) (fun _ => ?_)⟩
        have hd15 := s5 _ _ hd14
        have e15 := s05 _ _ e1
        have hR5 := hR.same s05
        have wl5 := wR.same s05
        refine ⟨_, rfl, _, rfl, D, rfl, ⟨_, SqL.of hd15⟩, fun D5 hD5 => lc_list (K := K) (tt := tYes) (xs := am.map V.int) (fun i H' => Same H5 H' ∧ ∃ ss : List Addr, H' D5 = some (.lst (ss.map V.ref)) ∧ RowsL tripT H' ss ((am.take i).map fun a => (a, sumG R a, sumT R a))) ⟨same_new hD5, [], upd_same, RowsL.nil⟩ (fun i H' _ ⟨s1, _⟩ => SqL.of (s1 _ _ hd15)) ?_ ?_⟩
        · rintro i v H6 hi ⟨s6, ss, hd6, rS⟩
          rw [List.getElem?_map] at hi
          obtain ⟨a, ha, rfl⟩ := Option.map_eq_some_iff.mp hi
          have la := rS.len
          rw [List.length_map, List.length_take] at la
          refine ⟨rfl, _, rfl, _, rfl, _, rfl, t, R, 0, a, rfl, hR5.same s6, lR, .inl rfl, fun H7 s7 => ⟨_, rfl, _, rfl, t, R, 1, a, rfl, (hR5.same s6).same s7, lR, .inr rfl, fun H8 s8 => ⟨(by show 3 ≤ sizeLine; decide), fun e he => ?_⟩⟩⟩
          have s78 := s7.trans s8
          have hd8 := s78 _ _ hd6
          have ned : e ≠ D5 := Ne.symm (ne_of_none hd8 he)
          refine ⟨_, same_new he _ _ hd8, ?_, fun c' o eo => ?_, ss ++ [e], ?_, ?_⟩
          · rw [List.length_map, sizeLine_eq]
            omega
          · rw [upd_ne (ne_of_none eo hD5)]
            exact same_new he _ _ (s78 _ _ (s6 _ _ eo))
          · rw [upd_same, List.map_append]
            rfl
          · rw [take_snoc ha, List.map_append]
            refine (((rS.same s78).same (same_new he)).put (same_new he _ _ hd8)).snoc ?_
            rw [upd_ne ned]
            exact upd_same
        rintro H6 ⟨s6, ss, hd6, rS⟩
        rw [List.length_map, List.take_length] at rS
        have w16 := s6 _ _ (s05 _ _ w1)
        have wl6 := wl5.same s6
        refine ⟨.list (W.map bandD), .list ((am.map fun a => (a, sumG R a, sumT R a)).map bandD), .lst (SqL.of w16) (dp_all us W w2 wl6.at_), .lst (SqL.of hd6) (dp_all ss _ rS.len rS.at_), shaped_bands W, shaped_bands _, ?_⟩
        refine q1 _ _ (s05.trans s6) ?_
        rw [PyData.eqv, eqv_all, ← ham, List.map_map]
        rfl
theorem ok_accepts_gifts {f : Addr} {fd : FuncData} (F : Fun K "accepts_gifts" "accepts_gifts" s_accepts_gifts f fd) (T : Txt K mg C CP) (d_told_purses : Def P w K mg base "told_purses" ["texts"] 7 (spToldP K)) (d_is_integer_checker : Def P w K mg base "is_integer_checker" ["value"] 1 (spIsTy K "int"))
    (d_least_gifts : Def P w K mg base "least_gifts" ["kinds", "others"] 5 spLeastGifts) (d_are_gifts : Def P w K mg base "are_gifts" ["rows", "wanted"] 4 (spAreGifts K)) (d_gives_and_gets : Def P w K mg base "gives_and_gets" ["kinds", "others"] 4 spGivesGets) : FnOk P w K mg base CX0 8 f fd ["told", "certificate"] (spGiftsC K) := by
  refine F.ok sc_accepts_gifts (fun vs H Q E h => ?_) (fun cdv A outer s H vs Q E hr h => ?_)
  · obtain ⟨t, z, ks, ms, goal, R, rfl, _⟩ := h
    rfl
  · obtain ⟨t, z, ks, ms, goal, R, rfl, hT, g, g', hR, lR, q⟩ := h
    refine ⟨_, (pss_cons (ps_set (i := 2) sc_accepts_gifts.nd rfl (Or.inl rfl) (pe_def d_told_purses (hr.mono (by decide)) (by rfl) (pa_cons (pe_slice sl_tupA (pv 0) po_none (po_some pe_int)) pa_nil)))
  (pss_cons (ps_if (PW.pt (pw_or (pt_cmpR op_isN (pv 2) pe_non (nomark _)) (pw_or (pt_cmpR op_ne (pe_callB call_len_seq (by rfl) T.b_len (by decide +kernel) (pa_cons (pv 0) pa_nil)) pe_int (nomark _)) (pw_or1 (pt_not (pt_val (pe_def d_is_integer_checker (hr.mono (by decide)) (by rfl) (pa_cons (pe_ix ix_tup (pv 0) pe_int (fun _ _ => rfl)) pa_nil))))))))
    (pss_one (ps_ret pe_bl))
    pss_nil)
  (pss_cons (ps_asg (pv 2) (pg_lst (by rfl) (pgs_cons (pg_name (i := 3) sc_accepts_gifts.nd rfl (Or.inl rfl)) (pgs_cons (pg_name (i := 4) sc_accepts_gifts.nd rfl (Or.inl rfl)) pgs_nil))))
  (pss_one (ps_ret (pe_and (pe_cmpR op_eq (pe_def d_least_gifts (hr.mono (by decide)) (by rfl) (pa_cons (pv 3) (pa_cons (pv 4) pa_nil))) (pe_ix ix_tup (pv 0) pe_int (fun _ _ => rfl)) (nomark _)) (pe_one (pe_def d_are_gifts (hr.mono (by decide)) (by rfl) (pa_cons (pv 1) (pa_cons (pe_def d_gives_and_gets (hr.mono (by decide)) (by rfl) (pa_cons (pv 3) (pa_cons (pv 4) pa_nil))) pa_nil)))))))))), ?_⟩
    refine ⟨_, rfl, 2, rfl, t, _, rfl, hT, fun zz => absurd zz.2 (by simp [HT.sIx]), fun _ p hp => ?_⟩
    have sp := same_new (o := .tup (cutV [.str (sheetOf ks), .str (sheetOf ms), .int goal] none (some 2))) hp
    have kp : (upd H p (.tup (cutV [.str (sheetOf ks), .str (sheetOf ms), .int goal] none (some 2)))) p = some (.tup [.str (sheetOf ks), .str (sheetOf ms)]) := upd_same
    generalize (upd H p (.tup (cutV [.str (sheetOf ks), .str (sheetOf ms), .int goal] none (some 2)))) = H1 at *
    refine ⟨p, ks, ms, rfl, SqT.of kp, g, g', fun q1 a b H2 s2 hq0 hq hA hB => ?_⟩
    have s02 := sp.trans s2
    have hT2 := same_t s02 hT
    refine ⟨_, rfl, rfl, _, rfl, ite2 (fun z => absurd z (by simp)) (fun _ => ?_)⟩
    refine ⟨_, rfl, t, _, rfl, .inr hT2, rfl, _, rfl, ite2 (fun z => absurd z (by simp)) (fun _ => ?_)⟩
    refine ⟨_, rfl, t, _, 2, _, rfl, rfl, hT2, rfl, .int goal, "int", rfl, .int goal, ?_⟩
    refine ⟨_, rfl, ite2 (fun z => absurd z (by decide)) (fun _ => ?_)⟩
    refine ⟨_, rfl, q1, _, rfl, SqL.of hq, rfl, _, _, rfl, _, _, rfl, rfl, ?_⟩
    refine ⟨_, rfl, _, rfl, a, b, ks, ms, rfl, hA, g, hB, g', fun H3 s3 => ?_⟩
    refine ⟨_, rfl, t, _, 2, _, rfl, rfl, same_t s3 hT2, rfl, ?_⟩
    have s03 := s02.trans s3
    cases eg : giftOf ks ms with
    | none =>
      refine ⟨rfl, false, by simp [optV], iteF ?_⟩
      exact q _ false s03 (fun W _ => by rw [eg]; simp) (fun _ => rfl)
    | some v =>
      by_cases ev : v = goal
      · subst ev
        have h2' := eg
        unfold giftOf at h2'
        have hp' : peopleOf ks = peopleOf ms := by
          split at h2'
          · rename_i c; exact c.1
          · cases h2'
        refine ⟨rfl, true, by simp [optV], iteT ?_⟩
        refine ⟨_, rfl, _, rfl, _, rfl, a, b, ks, ms, rfl, hA.same s3, g, hB.same s3, g', hp', fun pw H4 es hp4 s4 hm l60 hW => ?_⟩
        have s04 := s03.trans s4
        refine ⟨z, pw, R, _, rfl, hR.same s04, lR, hW, by rw [List.length_map]; exact g.len30, fun H5 s5 => ?_⟩
        refine q _ _ (s04.trans s5) (fun W hw => ?_) (fun ne => absurd eg ne)
        rw [wanted_uniq hw ⟨es, hm, rfl⟩, eg]
        simp
      · refine ⟨rfl, false, by simp [optV, ev], iteF ?_⟩
        refine q _ false s03 (fun W _ => ?_) (fun _ => rfl)
        rw [eg]
        simp [ev]
end

section
variable {P : Program} {w : World} {K : PySem.W.Frag} {mg : Str → Option Value} {base : Heap} {C CP : Addr}
theorem ok_band_ofK {f : Addr} {fd : FuncData} (F : Fun K "band_of" "band_of" s_band_of f fd) (T : Txt K mg C CP) (d_read_integer : Def P w K mg base "read_integer" ["word"] 1 spReadIntK) : FnOk P w K mg base CX0 2 f fd ["line"] spBandOf :=
  ok_band_of F T (def_imp d_read_integer fun _ _ _ _ ⟨i, e, l, q⟩ => ⟨i, e, Nat.lt_of_lt_of_le l (by decide), q⟩)
theorem ok_kinds_behindR {f : Addr} {fd : FuncData} (F : Fun K "kinds_behind" "kinds_behind" s_kinds_behind f fd) (T : Txt K mg C CP) (d_left_by : Def P w K mg base "left_by" ["bands", "income"] 1 spLeftBy) : FnOk P w K mg base CX0 2 f fd ["bands", "incomes"] spKindsBehindR := by
  refine F.ok sc_kinds_behind (fun vs H Q E h => ?_) (fun cdv A outer s H vs Q E hr h => ?_)
  · obtain ⟨t, u, bs, ks, rfl, _⟩ := h
    rfl
  · obtain ⟨t, u, bs, ks, rfl, hB, g, hK0, gk, q⟩ := h
    refine ⟨_, (pss_cons (ps_set (i := 2) sc_kinds_behind.nd rfl (Or.inr rfl) pe_dnewK)
  (pss_cons (ps_for PassesOwn.never rfl (pi_tup (pv 1)) (pg_tup (by rfl) (pgs_cons (pg_name (i := 3) sc_kinds_behind.nd rfl (Or.inl rfl)) (pgs_cons (pg_name (i := 4) sc_kinds_behind.nd rfl (Or.inl rfl)) pgs_nil)))
    (pss_cons (ps_set (i := 5) sc_kinds_behind.nd rfl (Or.inl rfl) (pe_def d_left_by (hr.mono (by decide)) (by rfl) (pa_cons (pv 0) (pa_cons (pv 3) pa_nil))))
  (pss_one (ps_dput (hu_of hr) (pv 2) (pv 5) (pe_op op_add (pe_dget2 (hu_of hr) (pv 2) (pv 5) pe_int ⟨rfl, rfl, rfl, rfl⟩) (pv 4)) rfl))))
  (pss_one (ps_ret (pe_callTy call_tuple_of (by rfl) T.b_tuple (by decide +kernel) (pa_cons (pe_lc (own := [("left", 5)]) (g := gName 5) (tt := tYes) rfl sc_kinds_behind.nd (pi_list (pe_callB (call_sortedDI rfl) (by rfl) T.b_sorted (by decide +kernel) (pa_cons (pv 2) pa_nil))) (blkOk_by (N := ["bands", "incomes", "counts", "income", "count", "left"]) (sc := defScope s_kinds_behind) (by decide +kernel)) (fun _ _ _ _ _ => pg_name (i := 5) sc_kinds_behind.nd rfl (Or.inl rfl)) (fun _ _ _ _ _ => pts_nil) (fun _ _ _ _ _ => (pe_tup (pa_cons (pv 5) (pa_cons (pe_dget (hu_of hr) (pv 2) (pv 5) (fun _ _ => rfl)) pa_nil))))) pa_nil)))))), ?_⟩
    refine fun d hd0 => ?_
    obtain ⟨H2, s2, hd2⟩ : ∃ H2, H2 = upd H d (.dK []) ∧ H2 d = some (.dK []) := ⟨_, rfl, upd_same⟩
    rw [← s2]
    have sH : Same H H2 := by rw [s2]; exact same_new hd0
    have hB2 := hB.same sH
    have hK := hK0.same sH
    obtain ⟨rs, e1, eR⟩ := hK.rows
    have ud : u ≠ d := fun z => by rw [z, hd2] at e1; cases e1
    have len30 : ∀ i, (behindOf bs (ks.take i)).length ≤ 30 := fun i => by
      have := behind_len bs (ks.take i)
      have := gk.len30
      rw [List.length_take] at *
      omega
    refine ⟨_, rfl, u, rfl, ⟨_, SqT.of e1⟩, for_tup (K := K) (xs := rs.map V.ref) (fun i σ H' => ∃ (x4 x5 x6 : Option V), σ = [some (.ref t), some (.ref u), some (.ref d), x4, x5, x6] ∧ Fx d H2 H' ∧ H' d = some (.dK ((behindOf bs (ks.take i)).map entI)))
      ⟨none, none, none, rfl, Fx.refl, hd2⟩ (fun i σ H' _ ⟨_, _, _, _, f1, _⟩ => SqT.of (f1 _ _ ud e1)) ?_ ?_⟩
    · rintro i x σ H3 hi3 ⟨x4, x5, x6, rfl, f3, hd3⟩
      obtain ⟨r', b, rfl, hr', hb⟩ := row_at eR.len hi3
      have er := eR.at_ i r' b hr' hb
      have rd : r' ≠ d := fun z => by rw [z, hd2] at er; cases er
      have hT := SqT.of (f3 _ _ rd er) (K := K)
      have hm := List.mem_of_getElem? hb
      refine ⟨r', _, rfl, hT, rfl, _, _, rfl, _, _, rfl, rfl, ?_⟩
      refine ⟨_, rfl, _, rfl, t, bs, b.1, rfl, hB2.fxD hd2 f3, g, gk.low b hm, fun H4 s4 => ?_⟩
      have hd4 := s4 _ _ hd3
      refine ⟨_, rfl, _, rfl, .inl ⟨_, .inl hd4⟩, _, rfl, _, .inl ⟨_, .inl (leftOf bs b.1), .inl hd4, rfl, rfl⟩, ?_⟩
      rw [val_entI]
      refine ⟨_, rfl, _, _, rfl, rfl, _, rfl, _, rfl, d, _, rfl, .inl ⟨_, .inl (leftOf bs b.1), hd4, rfl, ?_, rfl⟩, ?_⟩
      · rw [List.length_map, sizeLine_eq]
        have := len30 i
        omega
      · rw [put_entI _ _ (behind_nodup _ _)]
        refine ⟨_, _, _, rfl, (f3.trans (Fx.of_same s4)).trans Fx.put, ?_⟩
        rw [upd_same, take_snoc hb, behind_snoc]
    · rintro σ H3 ⟨x4, x5, x6, rfl, f3, hd3⟩
      rw [List.length_map, eR.len, List.take_length] at hd3
      have l30 := len30 ks.length
      rw [List.take_length] at l30
      refine ⟨_, rfl, d, _, (behindOf bs ks).map (·.1), rfl, .inl hd3, (by rw [List.map_map, List.map_map]; rfl), (by rw [List.length_map]; omega), fun ys L perm asc hL => ?_⟩
      obtain ⟨ms, pm, rfl⟩ := keyed_perm (behind_nodup bs ks) perm
      have bk : Bk bs ks ms := Bk.of_le pm (List.pairwise_map.mp asc)
      have lm : ms.length ≤ 30 := by rw [pm.length_eq]; exact l30
      have sL := same_new (o := .lst ((ms.map (·.1)).map V.int)) hL
      have hL' := upd_same (H := H3) (a := L) (o := .lst ((ms.map (·.1)).map V.int))
      have hd5 := sL _ _ hd3
      generalize (upd H3 L (.lst ((ms.map (·.1)).map V.int))) = H5 at sL hL' hd5 ⊢
      refine ⟨L, rfl, ⟨_, SqL.of hL'⟩, fun D hD => lc_list (K := K) (g := gName 5) (tt := tYes) (xs := (ms.map (·.1)).map V.int) (fun i H' => Same H5 H' ∧ ∃ ss : List Addr, H' D = some (.lst (ss.map V.ref)) ∧ RowsL kindT H' ss (ms.take i)) ⟨same_new hD, [], upd_same, RowsL.nil⟩ (fun i H' _ ⟨s6, _⟩ => SqL.of (s6 _ _ hL')) ?_ ?_⟩
      · rintro i v H6 hx ⟨s6, ss, hD6, hR⟩
        obtain ⟨e, he, rfl⟩ : ∃ e : Int × Int, ms[i]? = some e ∧ v = V.int e.1 := by
          rw [List.getElem?_map, List.getElem?_map] at hx
          cases h : ms[i]? with
          | none => rw [h] at hx; cases hx
          | some e => rw [h] at hx; cases hx; exact ⟨e, rfl, rfl⟩
        have hme := List.mem_of_getElem? he
        have il := (List.getElem?_eq_some_iff.mp he).1
        have hd6 := s6 _ _ hd5
        refine ⟨rfl, _, rfl, _, rfl, _, rfl, d, _, rfl, .inl ⟨_, .inl e.1, .inl hd6, rfl, (getD_find (behind_nodup bs ks) (pm.mem_iff.mp hme)).symm⟩, (by show 2 ≤ sizeLine; decide), fun c hc => ⟨_, same_new hc _ _ hD6, ?_, fun c' o ec => ?_, ss ++ [c], ?_, ?_⟩⟩
        · have := hR.len
          rw [List.length_take] at this
          rw [List.length_map, sizeLine_eq]
          omega
        · rw [upd_ne (ne_of_none ec hD)]
          exact same_new hc _ _ (s6 _ _ ec)
        · rw [upd_same, List.map_append]
          rfl
        · rw [take_snoc he]
          have hcd : c ≠ D := Ne.symm (ne_of_none hD6 hc)
          refine ((hR.same (same_new hc)).put (same_new hc _ _ hD6)).snoc ?_
          rw [upd_ne hcd]
          exact upd_same
      · rintro H6 ⟨s6, ss, hD6, hR⟩
        rw [List.length_map, List.length_map, List.take_length] at hR
        refine ⟨D, _, rfl, .inl ⟨SqL.of hD6, fun q2 hq2 => ?_⟩⟩
        have sq := same_new (o := .tup (ss.map V.ref)) hq2
        have hK2 := (hR.same sq).tup (upd_same (H := H6) (a := q2) (o := .tup (ss.map V.ref)))
        refine q q2 _ ms ?_ hK2 bk
        have sE := (sL.trans s6).trans sq
        intro b o eb
        have bd : b ≠ d := ne_of_none eb hd0
        exact sE _ _ (f3 _ _ bd (sH _ _ eb))
theorem ok_accepts_nmS {f : Addr} {fd : FuncData} (F : Fun K "accepts_not_more" "accepts_not_more" s_accepts_not_more f fd) (T : Txt K mg C CP) (d_told_rules : Def P w K mg base "told_rules" ["texts"] 7 (spToldR K)) (d_told_kinds : Def P w K mg base "told_kinds" ["text"] 6 spToldK)
    (d_first_crossing : Def P w K mg base "first_crossing" ["kinds", "others"] 3 spFirstX) (d_kinds_behind : Def P w K mg base "kinds_behind" ["bands", "incomes"] 2 spKindsBehindR) : FnOk P w K mg base CX0 8 f fd ["told", "certificate"] (spNotMoreS K) := by
  refine F.ok sc_accepts_not_more (fun vs H Q E h => ?_) (fun cdv A outer s H vs Q E hr h => ?_)
  · obtain ⟨t, bs, cs, ks, rfl, _⟩ := h
    rfl
  · obtain ⟨t, bs, cs, ks, rfl, hT, g, g', gk, hi, pk, q⟩ := h
    refine ⟨_, (pss_cons (ps_set (i := 2) sc_accepts_not_more.nd rfl (Or.inl rfl) (pe_def d_told_rules (hr.mono (by decide)) (by rfl) (pa_cons (pv 0) pa_nil)))
  (pss_cons (ps_set (i := 3) sc_accepts_not_more.nd rfl (Or.inl rfl) (pe_def d_told_kinds (hr.mono (by decide)) (by rfl) (pa_cons (pv 1) pa_nil)))
  (pss_cons (ps_if (PW.pt (pw_or (pt_cmpR op_isN (pv 2) pe_non (nomark _)) (pw_or (pt_cmpR op_isN (pv 3) pe_non (nomark _)) (pw_or1 (pt_cmpR op_gt (pe_ix ix_tup (pe_ix ix_tup (pv 3) (pe_un un_neg pe_int) (fun _ _ => rfl)) pe_int (fun _ _ => rfl)) (pe_globI (by rfl) T.c_MOST_INCOME) (nomark _))))))
    (pss_one (ps_ret pe_bl))
    pss_nil)
  (pss_cons (ps_asg (pv 2) (pg_lst (by rfl) (pgs_cons (pg_name (i := 4) sc_accepts_not_more.nd rfl (Or.inl rfl)) (pgs_cons (pg_name (i := 5) sc_accepts_not_more.nd rfl (Or.inl rfl)) pgs_nil))))
  (pss_one (ps_ret (pe_cmpR op_notN (pe_def d_first_crossing (hr.mono (by decide)) (by rfl) (pa_cons (pe_def d_kinds_behind (hr.mono (by decide)) (by rfl) (pa_cons (pv 4) (pa_cons (pv 3) pa_nil))) (pa_cons (pe_def d_kinds_behind (hr.mono (by decide)) (by rfl) (pa_cons (pv 5) (pa_cons (pv 3) pa_nil))) pa_nil))) pe_non (nomark _)))))))), ?_⟩
    refine ⟨_, rfl, t, bs, cs, rfl, hT, g, g', fun pq a b H1 s1 hq0 hq1 hA hM => ?_⟩
    refine ⟨_, rfl, ks, rfl, gk, fun u H2 s2 hK => ?_⟩
    have s12 := s1.trans s2
    obtain ⟨lb, hlb⟩ := gk.last
    obtain ⟨rs, e1, eR⟩ := hK.rows
    obtain ⟨rl, k2, k3⟩ := eR.last hlb
    refine ⟨_, rfl, rfl, _, rfl, iteF ⟨_, rfl, rfl, _, rfl, iteF ⟨_, rfl, 1, rfl, u, _, _, _, rfl, rfl, SqT.of e1, atLast k2, rl, _, 0, _, rfl, rfl, SqT.of k3, at0, _, _, rfl, rfl, _, rfl, ite2 (fun c => ?_) (fun _ => ?_)⟩⟩⟩
    · exact absurd (hi lb (List.mem_of_getLast? hlb)) (by have c' : lb.1 > 10 ^ 30 := of_decide_eq_true c; omega)
    refine ⟨_, rfl, pq, _, rfl, SqL.of (s2 _ _ hq1), rfl, _, _, rfl, _, _, rfl, rfl, ?_⟩
    refine ⟨_, rfl, _, rfl, a, u, bs, ks, rfl, hA.same s2, g, hK, gk, fun p1 H3 ms s3 hM1 b1 => ⟨_, rfl, _, rfl, b, u, cs, ks, rfl, (hM.same s2).same s3, g', hK.same s3, gk, fun p2 H4 ns s4 hN1 b2 => ?_⟩⟩
    have gm := b1.good g gk hi pk
    have gn := b2.good g' gk hi pk
    have ac := asE_cross gm gn
    refine ⟨p1, p2, ms, ns, rfl, hM1.same s4, gm, hN1, gn, fun H5 s5 => ⟨fun hn => ?_, fun x hx p3 hp3 hp4 => ?_⟩⟩
    · have S := s12.trans ((s3.trans s4).trans s5)
      rw [hn] at ac
      have q' := q H5 ms ns S b1 b2
      rw [← ac] at q'
      exact ⟨rfl, q'⟩
    · have S := s12.trans ((s3.trans s4).trans s5)
      rw [hx] at ac
      have q' := q H5 ms ns S b1 b2
      rw [← ac] at q'
      exact ⟨rfl, q'⟩
theorem ok_certify_evening {f : Addr} {fd : FuncData} (F : FunD K "certify_evening" "certify_evening" (defArgs s_certify_evening) (defBody s_certify_evening) (defScope s_certify_evening) [.non] [] f fd) (T : Txt K mg C CP) (d_contrary : Def P w K mg base "contrary" ["one", "other"] 12 (spContrary C CP))
    (d_Rule___str__ : MDef P w K mg base C "__str__" ["self"] 2 (spStr C)) (d_Purse___str__ : MDef P w K mg base CP "__str__" ["self"] 2 (spStrK CP)) (d_plain : Def P w K mg base "plain" [] 8 (spPlain C)) : FnOk P w K mg base CX0 13 f fd ["one", "other"] (spCertE C) := by
  refine okDN F sc_certify_evening (fun vs H Q E h => ?_) (fun cdv A outer s H vs Q E hr h => ?_)
  · obtain ⟨r, v, bs, cs, rfl, _⟩ := h
    rfl
  · obtain ⟨r, v, bs, cs, rfl, R, o, q⟩ := h
    refine ⟨_, (pss_cons (ps_set (i := 2) sc_certify_evening.nd rfl (Or.inl rfl) (pe_def d_contrary (hr.mono (by decide)) (by rfl) (pa_cons (pv 0) (pa_cons (pv 1) pa_nil))))
  (C8.pss_cut (ps_set (i := 3) sc_certify_evening.nd rfl (Or.inl rfl) (pe_tup (pa_cons (pe_callTy (call_strOwn d_Rule___str__ (hr.mono (by decide))) (by rfl) T.b_str (by decide +kernel) (pa_cons (pv 0) pa_nil)) (pa_cons (pe_callTy (call_strOwn d_Rule___str__ (hr.mono (by decide))) (by rfl) T.b_str (by decide +kernel) (pa_cons (pe_ifExp (pt_cmpR op_isN (pv 1) pe_non (nomark _)) (pe_def0 d_plain (hr.mono (by decide)) (by rfl)) (pv 1)) pa_nil)) pa_nil))))
  (pss_cons (ps_if (pt_cmpR op_isN (pv 2) pe_non (nomark _))
    (pss_one (ps_ret (pe_tup (pa_cons (pe_tup (pa_cons pe_str (StX.pa_star (pv 3) pa_nil))) (pa_cons (pe_tup pa_nil) pa_nil)))))
    pss_nil)
  (pss_one (ps_ret (pe_tup (pa_cons (pe_tup (pa_cons pe_str (StX.pa_star (pv 3) pa_nil))) (pa_cons (pe_callTy (call_strOwn d_Purse___str__ (hr.mono (by decide))) (by rfl) T.b_str (by decide +kernel) (pa_cons (pv 2) pa_nil)) pa_nil)))))))), ?_⟩
    refine ⟨_, rfl, _, rfl, r, v, bs, cs, rfl, R, o, fun H1 xs s1 sp => ⟨fun hn => ?_, fun x hx P hP => ?_⟩⟩
    · skip
      refine ⟨fun σ' H' => ∃ T1 : Addr, σ' = [some (.ref r), some v, some (.non), some (.ref T1)] ∧ Same H1 H' ∧ H' T1 = some (.tup [.str (pageOf bs), .str (pageOf cs)]), ?_, ?_⟩
      · obtain ⟨dx, t, h1, hB, g⟩ := id (R.same s1)
        refine ⟨_, rfl, r, dx, _, rfl, h1, ⟨r, bs, rfl, R.same s1, fun H2 s2 => ⟨_, rfl, ?_⟩⟩⟩
        rcases o with ⟨rfl, rfl⟩ | ⟨r2, rfl, R2, up⟩
        · refine ⟨_, rfl, rfl, _, rfl, iteT ?_⟩
          refine ⟨rfl, fun r2 H3 hr2 s3 R2 => ?_⟩
          obtain ⟨dy, u, h2, hC, g'⟩ := id R2
          refine ⟨r2, dy, _, rfl, h2, ⟨r2, _, rfl, R2, fun H4 s4 => ⟨_, rfl, (by show 2 ≤ sizeLine; decide), fun T1 hT1 => ?_⟩⟩⟩
          exact ⟨T1, rfl, ((s2.trans s3).trans s4).trans (same_new hT1), upd_same⟩
        · refine ⟨_, rfl, rfl, _, rfl, iteF ?_⟩
          have R2' := (R2.same s1).same s2
          obtain ⟨dy, u, h2, hC, g'⟩ := id R2'
          refine ⟨_, rfl, r2, dy, _, rfl, h2, ⟨r2, cs, rfl, R2', fun H4 s4 => ⟨_, rfl, (by show 2 ≤ sizeLine; decide), fun T1 hT1 => ?_⟩⟩⟩
          exact ⟨T1, rfl, (s2.trans s4).trans (same_new hT1), upd_same⟩
      rintro σ' H5 ⟨T1, rfl, s5, k1⟩
      have s05 := s1.trans s5
      refine ⟨_, rfl, rfl, _, rfl, iteT ?_⟩
      refine ⟨_, rfl, T1, _, rfl, .inl (SqT.of k1), (by show 3 ≤ sizeLine; decide), fun c hc => ?_⟩
      have kc := upd_at (o := .tup [.str "more", .str (pageOf bs), .str (pageOf cs)]) hc
      have sc := same_new (o := .tup [.str "more", .str (pageOf bs), .str (pageOf cs)]) hc
      refine ⟨(by show 0 ≤ sizeLine; decide), fun z hz => ?_⟩
      have kz := upd_at (o := .tup []) hz
      have sz := same_new (o := .tup []) hz
      refine ⟨(by show 2 ≤ sizeLine; decide), fun p hp => ?_⟩
      have sp' := same_new (o := .tup [.ref c, .ref z]) hp
      exact q p _ xs ((s05.trans sc).trans (sz.trans sp')) sp ⟨c, .ref z, upd_same, .inl ⟨hn, sp' _ _ (sz _ _ kc), z, rfl, sp' _ _ kz⟩⟩
    · skip
      refine ⟨fun σ' H' => ∃ T1 : Addr, σ' = [some (.ref r), some v, some (.ref P), some (.ref T1)] ∧ Same H1 H' ∧ H' T1 = some (.tup [.str (pageOf bs), .str (pageOf cs)]), ?_, ?_⟩
      · obtain ⟨dx, t, h1, hB, g⟩ := id (R.same s1)
        refine ⟨_, rfl, r, dx, _, rfl, h1, ⟨r, bs, rfl, R.same s1, fun H2 s2 => ⟨_, rfl, ?_⟩⟩⟩
        rcases o with ⟨rfl, rfl⟩ | ⟨r2, rfl, R2, up⟩
        · refine ⟨_, rfl, rfl, _, rfl, iteT ?_⟩
          refine ⟨rfl, fun r2 H3 hr2 s3 R2 => ?_⟩
          obtain ⟨dy, u, h2, hC, g'⟩ := id R2
          refine ⟨r2, dy, _, rfl, h2, ⟨r2, _, rfl, R2, fun H4 s4 => ⟨_, rfl, (by show 2 ≤ sizeLine; decide), fun T1 hT1 => ?_⟩⟩⟩
          exact ⟨T1, rfl, ((s2.trans s3).trans s4).trans (same_new hT1), upd_same⟩
        · refine ⟨_, rfl, rfl, _, rfl, iteF ?_⟩
          have R2' := (R2.same s1).same s2
          obtain ⟨dy, u, h2, hC, g'⟩ := id R2'
          refine ⟨_, rfl, r2, dy, _, rfl, h2, ⟨r2, cs, rfl, R2', fun H4 s4 => ⟨_, rfl, (by show 2 ≤ sizeLine; decide), fun T1 hT1 => ?_⟩⟩⟩
          exact ⟨T1, rfl, (s2.trans s4).trans (same_new hT1), upd_same⟩
      rintro σ' H5 ⟨T1, rfl, s5, k1⟩
      have s05 := s1.trans s5
      refine ⟨_, rfl, rfl, _, rfl, iteF ?_⟩
      refine ⟨_, rfl, T1, _, rfl, .inl (SqT.of k1), (by show 3 ≤ sizeLine; decide), fun c hc => ?_⟩
      have kc := upd_at (o := .tup [.str "not more", .str (pageOf bs), .str (pageOf cs)]) hc
      have sc := same_new (o := .tup [.str "not more", .str (pageOf bs), .str (pageOf cs)]) hc
      have hP5 := (hP.same s5).same sc
      obtain ⟨dz, tz, hz1, hz2, gz⟩ := id hP5
      refine ⟨_, rfl, P, dz, _, rfl, hz1, ⟨P, _, rfl, hP5, fun H6 s6 => ⟨_, rfl, (by show 2 ≤ sizeLine; decide), fun p hp => ?_⟩⟩⟩
      have sp' := same_new (o := .tup [.ref c, .str (sheetOf (shownK bs cs x))]) hp
      exact q p _ xs ((s05.trans sc).trans (s6.trans sp')) sp ⟨c, _, upd_same, .inr ⟨x, hx, sp' _ _ (s6 _ _ kc), rfl⟩⟩
end

section
variable {P : Program} {w : World} {K : PySem.W.Frag} {mg : Str → Option Value} {base : Heap} {C CP : Addr}
theorem ok_certify_order {f : Addr} {fd : FuncData} (F : Fun K "certify_order" "certify_order" s_certify_order f fd) (T : Txt K mg C CP) (d_crossing : Def P w K mg base "crossing" ["first", "second"] 4 (spCrossing CP)) (d_Purse___str__ : MDef P w K mg base CP "__str__" ["self"] 2 (spStrK CP)) : FnOk P w K mg base CX0 5 f fd ["first", "second"] (spCertO CP) := by
  refine F.ok sc_certify_order (fun vs H Q E h => ?_) (fun cdv A outer s H vs Q E hr h => ?_)
  · obtain ⟨r, r2, ks, ms, rfl, _⟩ := h
    rfl
  · obtain ⟨r, r2, ks, ms, rfl, hP, hP2, q⟩ := h
    refine ⟨_, (pss_cons (ps_set (i := 2) sc_certify_order.nd rfl (Or.inl rfl) (pe_def d_crossing (hr.mono (by decide)) (by rfl) (pa_cons (pv 0) (pa_cons (pv 1) pa_nil))))
  (pss_cons (ps_set (i := 3) sc_certify_order.nd rfl (Or.inl rfl) (pe_tup (pa_cons (pe_callTy (call_strOwn d_Purse___str__ (hr.mono (by decide))) (by rfl) T.b_str (by decide +kernel) (pa_cons (pv 0) pa_nil)) (pa_cons (pe_callTy (call_strOwn d_Purse___str__ (hr.mono (by decide))) (by rfl) T.b_str (by decide +kernel) (pa_cons (pv 1) pa_nil)) pa_nil))))
  (pss_cons (ps_if (pt_cmpR op_isN (pv 2) pe_non (nomark _))
    (pss_one (ps_ret (pe_tup (pa_cons (pe_tup (pa_cons pe_str (StX.pa_star (pv 3) pa_nil))) (pa_cons (pe_tup pa_nil) pa_nil)))))
    pss_nil)
  (pss_one (ps_ret (pe_tup (pa_cons (pe_tup (pa_cons pe_str (StX.pa_star (pv 3) pa_nil))) (pa_cons (pv 2) pa_nil)))))))), ?_⟩
    refine ⟨_, rfl, _, rfl, r, r2, ks, ms, rfl, hP, hP2, fun H1 s1 => ⟨fun hn => ?_, fun e he z hz0 hz => ?_⟩⟩
    · skip
      obtain ⟨dx, t, h1, hB, g⟩ := id hP
      obtain ⟨dy, u, h2, hC, g'⟩ := id hP2
      refine ⟨_, rfl, r, dx, _, rfl, s1 _ _ h1, ⟨r, ks, rfl, hP.same s1, fun H2 s2 => ⟨_, rfl, ?_⟩⟩⟩
      refine ⟨_, rfl, r2, dy, _, rfl, s2 _ _ (s1 _ _ h2), ⟨r2, ms, rfl, (hP2.same s1).same s2, fun H3 s3 => ⟨_, rfl, (by show 2 ≤ sizeLine; decide), fun T1 hT1 => ?_⟩⟩⟩
      have s03 := (s1.trans s2).trans s3
      have k1 := upd_at (o := .tup [.str (sheetOf ks), .str (sheetOf ms)]) hT1
      have s04 := s03.trans (same_new (o := .tup [.str (sheetOf ks), .str (sheetOf ms)]) hT1)
      refine ⟨_, rfl, rfl, _, rfl, ite2 (fun _ => ?_) (fun z => absurd rfl (of_decide_eq_false (Bool.eq_false_iff.mpr z)))⟩
      refine ⟨_, rfl, T1, _, rfl, .inl (SqT.of k1), (by show 3 ≤ sizeLine; decide), fun c hc => ?_⟩
      have kc := upd_at (o := .tup [.str "even", .str (sheetOf ks), .str (sheetOf ms)]) hc
      have s05 := s04.trans (same_new (o := .tup [.str "even", .str (sheetOf ks), .str (sheetOf ms)]) hc)
      refine ⟨(by show 0 ≤ sizeLine; decide), fun z hz => ?_⟩
      have kz := upd_at (o := .tup []) hz
      have sz := same_new (o := .tup []) hz
      refine ⟨(by show 2 ≤ sizeLine; decide), fun p hp => ?_⟩
      have sp := same_new (o := .tup [.ref c, .ref z]) hp
      exact q p _ (s05.trans (sz.trans sp)) ⟨c, z, upd_same, .inl ⟨hn, sp _ _ (sz _ _ kc), sp _ _ kz⟩⟩
    · skip
      obtain ⟨dx, t, h1, hB, g⟩ := id hP
      obtain ⟨dy, u, h2, hC, g'⟩ := id hP2
      refine ⟨_, rfl, r, dx, _, rfl, s1 _ _ h1, ⟨r, ks, rfl, hP.same s1, fun H2 s2 => ⟨_, rfl, ?_⟩⟩⟩
      refine ⟨_, rfl, r2, dy, _, rfl, s2 _ _ (s1 _ _ h2), ⟨r2, ms, rfl, (hP2.same s1).same s2, fun H3 s3 => ⟨_, rfl, (by show 2 ≤ sizeLine; decide), fun T1 hT1 => ?_⟩⟩⟩
      have s03 := (s1.trans s2).trans s3
      have k1 := upd_at (o := .tup [.str (sheetOf ks), .str (sheetOf ms)]) hT1
      have s04 := s03.trans (same_new (o := .tup [.str (sheetOf ks), .str (sheetOf ms)]) hT1)
      refine ⟨_, rfl, rfl, _, rfl, ite2 (fun z => absurd z (by simp)) (fun _ => ?_)⟩
      refine ⟨_, rfl, T1, _, rfl, .inl (SqT.of k1), (by show 3 ≤ sizeLine; decide), fun c hc => ?_⟩
      have kc := upd_at (o := .tup [.str "uneven", .str (sheetOf ks), .str (sheetOf ms)]) hc
      have s45 := same_new (o := .tup [.str "uneven", .str (sheetOf ks), .str (sheetOf ms)]) hc
      have s05 := s04.trans s45
      refine ⟨_, rfl, (by show 2 ≤ sizeLine; decide), fun p hp => ?_⟩
      have sp := same_new (o := .tup [.ref c, .ref z]) hp
      exact q p _ (s05.trans sp) ⟨c, z, upd_same, .inr ⟨e, he, sp _ _ kc, sp _ _ (s45 _ _ (same_new hT1 _ _ (s3 _ _ (s2 _ _ hz))))⟩⟩
end

section
variable {P : Program} {w : World} {K : PySem.W.Frag} {mg : Str → Option Value} {base : Heap} {C CP : Addr}
theorem ok_acceptsG {sp : Sp} {chk : Str} {f : Addr} {fd : FuncData} (F : Fun K "accepts" "accepts" s_accepts f fd) (T : Txt K mg C CP) (d_CHECKS : KTab K w mg "CHECKS" chkTab) (d_is_tuple : Def P w K mg base "is_tuple" ["value"] 1 (spIsTy K "tuple"))
    (d_is_text : Def P w K mg base "is_text" ["value"] 1 (spIsTy K "str")) (d_chk : Def P w K mg base chk ["told", "certificate"] 8 sp) : FnOk P w K mg base CX0 9 f fd ["claim", "certificate"] (spAccepts chk sp) := by
  refine F.ok sc_accepts (fun vs H Q E h => ?_) (fun cdv A outer s H vs Q E hr h => ?_)
  · obtain ⟨c, z, xs, v, rfl, _⟩ := h
    rfl
  · obtain ⟨c, z, xs, v, rfl, hz, hc, hl, q⟩ := h
    obtain ⟨dC, es, nC, hmC, kdC, vals⟩ := d_CHECKS.ex
    obtain ⟨fL, fdL, hmL, kpL, bdL, FL⟩ := d_chk
    obtain ⟨f', hf', hn'⟩ := vals _ hz
    obtain rfl : fL = f' := by
      rw [hmL] at hf'
      cases hf'
      rfl
    refine ⟨_, (pss_cons (ps_if (PW.pt (pw_or (pt_not (pt_val (pe_def d_is_tuple (hr.mono (by decide)) (by rfl) (pa_cons (pv 0) pa_nil)))) (pw_or (pt_cmpR op_eq (pe_callB call_len_seq (by rfl) T.b_len (by decide +kernel) (pa_cons (pv 0) pa_nil)) pe_int (nomark _)) (pw_or (pt_not (pt_val (pe_def d_is_text (hr.mono (by decide)) (by rfl) (pa_cons (pe_ix ix_tup (pv 0) pe_int (fun _ _ => rfl)) pa_nil)))) (pw_or1 (pt_cmpR (op_notIn_kd kdC) (pe_ix ix_tup (pv 0) pe_int (fun _ _ => rfl)) (pe_glob (v := .ref dC) (by rfl) hmC rfl) (by with_unfolding_all rfl)))))))
    (pss_one (ps_ret pe_bl))
    pss_nil)
  (pss_cons (ps_set (i := 2) sc_accepts.nd rfl (Or.inl rfl) (pe_ix ix_kdict (pe_glob (v := .ref dC) (by rfl) hmC rfl) (pe_ix ix_tup (pv 0) pe_int (fun _ _ => rfl)) (fun _ _ => rfl)))
  (pss_one (ps_ret (pe_callL (i := 2) FL (hr.mono (by decide)) rfl (by first | exact Or.inl rfl | exact Or.inr (Or.inl rfl) | exact Or.inr (Or.inr rfl)) kpL bdL .nil pass0 (pa_cons (pe_slice sl_tupA (pv 0) (po_some pe_int) po_none) (pa_cons (pv 1) pa_nil))))))), ?_⟩
    have hT : SqT K H c (.str z :: xs) := SqT.of hc
    refine ⟨_, rfl, _, _, rfl, .tup hT, _, rfl, ite2 (fun z => absurd z (by decide)) (fun _ => ?_)⟩
    refine ⟨_, rfl, _, _, rfl, .inr hT, rfl, _, rfl, ite2 (fun z => absurd z (by simp; omega)) (fun _ => ?_)⟩
    refine ⟨_, rfl, c, _, 0, _, rfl, rfl, hT, at0, _, _, rfl, .str z, _, rfl, ite2 (fun z => absurd z (by decide)) (fun _ => ?_)⟩
    refine ⟨_, rfl, c, _, 0, _, rfl, rfl, hT, at0, z, _, rfl, rfl, hn', _, rfl, ite2 (fun z => absurd z (by simp)) (fun _ => ?_)⟩
    refine ⟨_, rfl, c, _, 0, _, rfl, rfl, hT, at0, dC, z, _, rfl, rfl, KDict.dct kdC hn', rfl, ?_⟩
    have e0 : HT.sIx (V.str z :: xs).length 0 (some 1) ≠ 0 := by
      simp [HT.sIx]
    have ec : cutV (V.str z :: xs) (some 1) none = xs := by
      simp [cutV, HT.sIx]
    refine ⟨_, rfl, 1, rfl, c, _, rfl, hT, fun zz => absurd zz.1 e0, fun _ p hp => ⟨_, rfl, ?_⟩⟩
    rw [ec]
    exact q p hp
theorem ok_accepts3 {f : Addr} {fd : FuncData} (F : Fun K "accepts" "accepts" s_accepts f fd) (T : Txt K mg C CP) (d_CHECKS : KTab K w mg "CHECKS" chkTab) (d_is_tuple : Def P w K mg base "is_tuple" ["value"] 1 (spIsTy K "tuple"))
    (d_is_text : Def P w K mg base "is_text" ["value"] 1 (spIsTy K "str")) (d_accepts_more : Def P w K mg base "accepts_more" ["told", "certificate"] 8 (spMoreC K)) (d_accepts_not_more : Def P w K mg base "accepts_not_more" ["told", "certificate"] 8 (spNotMoreS K)) :
    FnOk P w K mg base CX0 9 f fd ["claim", "certificate"] (spAcc3 K) :=
  fnok_or (ok_acceptsG F T d_CHECKS d_is_tuple d_is_text d_accepts_more) (ok_acceptsG F T d_CHECKS d_is_tuple d_is_text d_accepts_not_more)
theorem ok_accepts2 {f : Addr} {fd : FuncData} (F : Fun K "accepts" "accepts" s_accepts f fd) (T : Txt K mg C CP) (d_CHECKS : KTab K w mg "CHECKS" chkTab) (d_is_tuple : Def P w K mg base "is_tuple" ["value"] 1 (spIsTy K "tuple"))
    (d_is_text : Def P w K mg base "is_text" ["value"] 1 (spIsTy K "str")) (d_accepts_even : Def P w K mg base "accepts_even" ["told", "certificate"] 8 (spEven K)) (d_accepts_uneven : Def P w K mg base "accepts_uneven" ["told", "certificate"] 8 (spUneven K)) :
    FnOk P w K mg base CX0 9 f fd ["claim", "certificate"] (spAcc2 K) :=
  fnok_or (ok_acceptsG F T d_CHECKS d_is_tuple d_is_text d_accepts_even) (ok_acceptsG F T d_CHECKS d_is_tuple d_is_text d_accepts_uneven)
theorem ok_accepts4 {f : Addr} {fd : FuncData} (F : Fun K "accepts" "accepts" s_accepts f fd) (T : Txt K mg C CP) (d_CHECKS : KTab K w mg "CHECKS" chkTab) (d_is_tuple : Def P w K mg base "is_tuple" ["value"] 1 (spIsTy K "tuple"))
    (d_is_text : Def P w K mg base "is_text" ["value"] 1 (spIsTy K "str")) (d_accepts_even : Def P w K mg base "accepts_even" ["told", "certificate"] 8 (spEven K)) (d_accepts_uneven : Def P w K mg base "accepts_uneven" ["told", "certificate"] 8 (spUneven K)) (d_accepts_more : Def P w K mg base "accepts_more" ["told", "certificate"] 8 (spMoreC K)) (d_accepts_not_more : Def P w K mg base "accepts_not_more" ["told", "certificate"] 8 (spNotMoreS K)) :
    FnOk P w K mg base CX0 9 f fd ["claim", "certificate"] (spAcc4 K) :=
  fnok_or (ok_accepts2 F T d_CHECKS d_is_tuple d_is_text d_accepts_even d_accepts_uneven) (ok_accepts3 F T d_CHECKS d_is_tuple d_is_text d_accepts_more d_accepts_not_more)
end

section
variable {P : Program} {w : World} {K : PySem.W.Frag} {mg : Str → Option Value} {base : Heap} {C CP : Addr}
theorem ok_gsame {f : Addr} {fd : FuncData} (F : Fun K "_law_same" "_law_same" s__law_same f fd) (T : Txt K mg C CP) : FnG P w K mg base 1 f fd ["told", "due"] (spSameB K) := by
  refine Fun.okG F sc__law_same (fun vs H Q E h => ?_) (fun cdv A outer s H vs Q E hr h0 h => ?_)
  · obtain ⟨p, q, b1, b2, rfl, _⟩ := h
    rfl
  · obtain ⟨p, q, b1, b2, rfl, hp, hq, k⟩ := h
    refine ⟨_, (pss_one (ps_ret (pe_cmpR op_eq (pe_callB (call_repr_data h0 hr) (by rfl) T.b_repr (by decide +kernel) (pa_cons (pv 0) pa_nil)) (pe_callB (call_repr_data h0 hr) (by rfl) T.b_repr (by decide +kernel) (pa_cons (pv 1) pa_nil)) (nomark _)))), ?_⟩
    refine ⟨_, rfl, _, _, rfl, dp_bool2 hp, rfl, rfl, rfl, depth_bool2 b1 b2, show_bool2 b1 b2, ?_⟩
    refine ⟨_, rfl, _, _, rfl, dp_bool2 hq, rfl, rfl, rfl, depth_bool2 b1 b2, show_bool2 b1 b2, ?_⟩
    refine ⟨rfl, ?_⟩
    rw [decide_eq_true rfl]
    exact k
theorem ok_gjudged {sp : Sp} {chk : Str} {f : Addr} {fd : FuncData} (F : Fun K "_law_judged" "_law_judged" s__law_judged f fd) (T : Txt K mg C CP) (d_accepts : Def P w K mg base "accepts" ["claim", "certificate"] 9 (spAccepts chk sp))
    (d_accepts_KP : KDefP P w K mg base "accepts" ["claim", "certificate"] ["certificate", "claim"] [1, 0] 9 (spAccepts chk sp)) (d_law_same : GDef P w K mg base "_law_same" ["told", "due"] 1 (spSameB K)) : FnG P w K mg base 10 f fd ["told", "paper", "due"] (spJudged chk sp) := by
  refine Fun.okG F sc__law_judged (fun vs H Q E h => ?_) (fun cdv A outer s H vs Q E hr h0 h => ?_)
  · obtain ⟨c, z, xs, v, due, rfl, _⟩ := h
    rfl
  · obtain ⟨c, z, xs, v, due, rfl, hz, hc, hl, hs, q⟩ := h
    refine ⟨_, (pss_cons (ps_set (i := 3) sc__law_judged.nd rfl (Or.inl rfl) (pe_lst (pa_cons (pe_def d_accepts (hr.mono (by decide)) (by rfl) (pa_cons (pv 0) (pa_cons (pv 1) pa_nil))) (pa_cons (pe_defKP d_accepts_KP (hr.mono (by decide)) (by rfl) (pk_cons (pv 1) (pk_cons (pv 0) pk_nil))) pa_nil))))
  (pss_one (ps_ret (pe_defG d_law_same h0 (hr.mono (by decide)) (by rfl) (pa_cons (pv 3) (pa_cons (pe_lst (pa_cons (pv 2) (pa_cons (pv 2) pa_nil))) pa_nil)))))), ?_⟩
    refine ⟨_, rfl, _, rfl, c, z, xs, v, rfl, hz, hc, hl, fun p hp => hs H (Same.refl _) p hp _ fun H1 s1 => ?_⟩
    have s01 := (same_new hp).trans s1
    refine ⟨_, rfl, _, rfl, rfl, c, z, xs, v, rfl, hz, s01 _ _ hc, hl, fun p2 hp2 => hs H1 s01 p2 hp2 _ fun H2 s2 => ⟨(by show 2 ≤ sizeLine; decide), fun g hg => ?_⟩⟩
    have s02 := s01.trans ((same_new hp2).trans s2)
    refine ⟨_, rfl, _, rfl, _, rfl, (by show 2 ≤ sizeLine; decide), fun e he => ?_⟩
    refine ⟨g, e, due, due, rfl, SqL.of (same_new he _ _ upd_same), SqL.of upd_same, q _ ((s02.trans (same_new hg)).trans (same_new he))⟩
theorem kdefP_imp {x : Str} {ps ks : List Str} {idx : List Nat} {k : Nat} {s1 s2 : Sp} (D : KDefP P w K mg base x ps ks idx k s1) (h : ∀ vs H Q E, s2 vs H Q E → s1 vs H Q E) : KDefP P w K mg base x ps ks idx k s2 :=
  let ⟨f, fd, a, b, c, F⟩ := D; ⟨f, fd, a, b, c, F.imp h⟩
theorem ok_gjudged4 {f : Addr} {fd : FuncData} (F : Fun K "_law_judged" "_law_judged" s__law_judged f fd) (T : Txt K mg C CP) (d_accepts : Def P w K mg base "accepts" ["claim", "certificate"] 9 (spAcc4 K))
    (d_accepts_KP : KDefP P w K mg base "accepts" ["claim", "certificate"] ["certificate", "claim"] [1, 0] 9 (spAcc4 K)) (d_law_same : GDef P w K mg base "_law_same" ["told", "due"] 1 (spSameB K)) : FnG P w K mg base 10 f fd ["told", "paper", "due"] (spJud4 K) :=
  fng_or (fng_or (ok_gjudged F T (def_imp d_accepts fun _ _ _ _ h => .inl (.inl h)) (kdefP_imp d_accepts_KP fun _ _ _ _ h => .inl (.inl h)) d_law_same) (ok_gjudged F T (def_imp d_accepts fun _ _ _ _ h => .inl (.inr h)) (kdefP_imp d_accepts_KP fun _ _ _ _ h => .inl (.inr h)) d_law_same))
    (fng_or (ok_gjudged F T (def_imp d_accepts fun _ _ _ _ h => .inr (.inl h)) (kdefP_imp d_accepts_KP fun _ _ _ _ h => .inr (.inl h)) d_law_same) (ok_gjudged F T (def_imp d_accepts fun _ _ _ _ h => .inr (.inr h)) (kdefP_imp d_accepts_KP fun _ _ _ _ h => .inr (.inr h)) d_law_same))
end

section
variable {P : Program} {w : World} {K : PySem.W.Frag} {mg : Str → Option Value} {base : Heap} {C CP : Addr}
theorem ok_gsameD {f : Addr} {fd : FuncData} (F : Fun K "_law_same" "_law_same" s__law_same f fd) (T : Txt K mg C CP) : FnG P w K mg base 1 f fd ["told", "due"] (spSameD K) := by
  refine Fun.okG F sc__law_same (fun vs H Q E h => ?_) (fun cdv A outer s H vs Q E hr h0 h => ?_)
  · obtain ⟨p, q, d, rfl, _⟩ := h
    rfl
  · obtain ⟨p, q, d, rfl, hp, hq, d1, d2, d3, d4, d5, k⟩ := h
    refine ⟨_, (pss_one (ps_ret (pe_cmpR op_eq (pe_callB (call_repr_data h0 hr) (by rfl) T.b_repr (by decide +kernel) (pa_cons (pv 0) pa_nil)) (pe_callB (call_repr_data h0 hr) (by rfl) T.b_repr (by decide +kernel) (pa_cons (pv 1) pa_nil)) (nomark _)))), ?_⟩
    refine ⟨_, rfl, _, _, rfl, hp, d1, d2, d3, d4, d5, ?_⟩
    refine ⟨_, rfl, _, _, rfl, hq, d1, d2, d3, d4, d5, ?_⟩
    refine ⟨rfl, ?_⟩
    rw [decide_eq_true rfl]
    exact k
theorem ok_gjudged5 {f : Addr} {fd : FuncData} (F : Fun K "_law_judged" "_law_judged" s__law_judged f fd) (T : Txt K mg C CP) (d_accepts : Def P w K mg base "accepts" ["claim", "certificate"] 9 (spAcc4 K))
    (d_accepts_KP : KDefP P w K mg base "accepts" ["claim", "certificate"] ["certificate", "claim"] [1, 0] 9 (spAcc4 K)) (d_law_same : GDef P w K mg base "_law_same" ["told", "due"] 1 (spSameD K)) : FnG P w K mg base 10 f fd ["told", "paper", "due"] (spJud4 K) :=
  ok_gjudged4 F T d_accepts d_accepts_KP (gdef_imp d_law_same fun _ _ _ _ h => sameB_D h)
end

section
variable {P : Program} {w : World} {K : PySem.W.Frag} {mg : Str → Option Value} {base : Heap} {C CP : Addr}
theorem ok_accepts5 {f : Addr} {fd : FuncData} (F : Fun K "accepts" "accepts" s_accepts f fd) (T : Txt K mg C CP) (d_CHECKS : KTab K w mg "CHECKS" chkTab) (d_is_tuple : Def P w K mg base "is_tuple" ["value"] 1 (spIsTy K "tuple"))
    (d_is_text : Def P w K mg base "is_text" ["value"] 1 (spIsTy K "str")) (d_accepts_even : Def P w K mg base "accepts_even" ["told", "certificate"] 8 (spEven K)) (d_accepts_uneven : Def P w K mg base "accepts_uneven" ["told", "certificate"] 8 (spUneven K)) (d_accepts_more : Def P w K mg base "accepts_more" ["told", "certificate"] 8 (spMoreC K)) (d_accepts_not_more : Def P w K mg base "accepts_not_more" ["told", "certificate"] 8 (spNotMoreS K)) (d_accepts_gifts : Def P w K mg base "accepts_gifts" ["told", "certificate"] 8 (spGiftsC K)) :
    FnOk P w K mg base CX0 9 f fd ["claim", "certificate"] (spAcc5 K) :=
  fnok_or (ok_accepts4 F T d_CHECKS d_is_tuple d_is_text d_accepts_even d_accepts_uneven d_accepts_more d_accepts_not_more) (ok_acceptsG F T d_CHECKS d_is_tuple d_is_text d_accepts_gifts)
theorem ok_gjudged6 {f : Addr} {fd : FuncData} (F : Fun K "_law_judged" "_law_judged" s__law_judged f fd) (T : Txt K mg C CP) (d_accepts : Def P w K mg base "accepts" ["claim", "certificate"] 9 (spAcc5 K))
    (d_accepts_KP : KDefP P w K mg base "accepts" ["claim", "certificate"] ["certificate", "claim"] [1, 0] 9 (spAcc5 K)) (d_law_same : GDef P w K mg base "_law_same" ["told", "due"] 1 (spSameD K)) : FnG P w K mg base 10 f fd ["told", "paper", "due"] (spJud5 K) :=
  have dS := gdef_imp d_law_same fun _ _ _ _ h => sameB_D h
  fng_or (ok_gjudged4 F T (def_imp d_accepts fun _ _ _ _ h => .inl h) (kdefP_imp d_accepts_KP fun _ _ _ _ h => .inl h) dS) (ok_gjudged F T (def_imp d_accepts fun _ _ _ _ h => .inr h) (kdefP_imp d_accepts_KP fun _ _ _ _ h => .inr h) dS)
end

section
variable {P : Program} {w : World} {K : PySem.W.Frag} {mg : Str → Option Value} {base : Heap} {C CP : Addr}
theorem ok_rules91 {f : Addr} {fd : FuncData} (F : Fun K "_law_rules_right" "_law_rules_right" s__law_rules_right f fd) (T : Txt K mg C CP) (d_law_far : Def P w K mg base "_law_far" ["well", "top"] 2 spFar) (d_law_draw : Def P w K mg base "_law_draw" ["well", "many"] 1 spDraw)
    (d_Rule_init : IDef P w K mg base C ["self", "bands"] 6 (spInit C)) (d_certify_evening : Def P w K mg base "certify_evening" ["one", "other"] 13 (spCertE C)) (d_law_same : GDef P w K mg base "_law_same" ["told", "due"] 1 (spSameD K)) (d_law_spell : Def P w K mg base "_law_spell" ["bands"] 1 spPage)
    (d_law_judged : GDef P w K mg base "_law_judged" ["told", "paper", "due"] 10 (spJud5 K)) : FnG P w K mg base 14 f fd ["well"] spRight93 := by
  refine Ev.Fun.okG F sc__law_rules_right (fun vs H Q E h => ?_) (fun cdv A outer s H vs Q E hr h0 h => ?_)
  · obtain ⟨a, n, rfl, _⟩ := h
    rfl
  · obtain ⟨a, n, rfl, hv, hn, q⟩ := h
    refine ⟨_, (pss_cons (ps_par (i := 1) (j := 2) (by rfl) sc__law_rules_right.nd rfl rfl (by decide) rfl rfl (pa_cons (pe_op op_add pe_int (pe_def d_law_far (hr.mono (by decide)) (by rfl) (pa_cons (pv 0) (pa_cons (pe_op op_pow pe_int pe_int) pa_nil)))) (pa_cons (pe_def d_law_draw (hr.mono (by decide)) (by rfl) (pa_cons (pv 0) (pa_cons pe_int pa_nil))) pa_nil)) (by rfl))
  (pss_cons (ps_set (i := 3) sc__law_rules_right.nd rfl (Or.inl rfl) (pe_op op_add pe_int (pe_def d_law_far (hr.mono (by decide)) (by rfl) (pa_cons (pv 0) (pa_cons (pe_op op_pow pe_int pe_int) pa_nil)))))
  (pss_cons (ps_set (i := 4) sc__law_rules_right.nd rfl (Or.inl rfl) (pe_tup (pa_cons (pe_tup (pa_cons pe_int (pa_cons pe_int (pa_cons pe_int pa_nil)))) (pa_cons (pe_tup (pa_cons (pv 1) (pa_cons (pe_op op_mulW pe_int (pv 1)) (pa_cons (pv 2) pa_nil)))) pa_nil))))
  (pss_cons (ps_par (i := 5) (j := 6) (by rfl) sc__law_rules_right.nd rfl rfl (by decide) rfl rfl (pa_cons (pe_tup (pa_cons (pe_tup (pa_cons pe_int (pa_cons (pv 3) (pa_cons pe_int pa_nil)))) pa_nil)) (pa_cons (pe_tup (pa_cons (pe_tup (pa_cons pe_int (pa_cons (pe_op op_mulW pe_int (pv 3)) (pa_cons pe_int pa_nil)))) pa_nil)) pa_nil)) (by rfl))
  (pss_cons (ps_set (i := 7) sc__law_rules_right.nd rfl (Or.inl rfl) (pe_tup (pa_cons (pe_tup (pa_cons pe_int (pa_cons pe_int (pa_cons (pv 2) pa_nil)))) (pa_cons (pe_tup (pa_cons (pv 1) (pa_cons (pe_op op_mulW (pv 2) (pv 1)) (pa_cons (pe_op op_add (pe_op op_add (pv 2) pe_int) (pe_def d_law_draw (hr.mono (by decide)) (by rfl) (pa_cons (pv 0) (pa_cons pe_int pa_nil)))) pa_nil)))) pa_nil))))
  (pss_cons (ps_set (i := 8) sc__law_rules_right.nd rfl (Or.inl rfl) (pe_ifExp (pt_cmpR op_gt (pv 1) pe_int (nomark _)) (pe_tup (pa_cons (pe_tup (pa_cons pe_int (pa_cons pe_int (pa_cons pe_int pa_nil)))) (pa_cons (pe_tup (pa_cons (pv 1) (pa_cons (pe_op op_sub (pe_op op_mulW pe_int (pe_op op_sub (pv 1) pe_int)) pe_int) (pa_cons pe_int pa_nil)))) pa_nil))) (pe_tup (pa_cons (pe_tup (pa_cons pe_int (pa_cons pe_int (pa_cons pe_int pa_nil)))) (pa_cons (pe_tup (pa_cons (pv 1) (pa_cons pe_int (pa_cons pe_int pa_nil)))) pa_nil)))))
  (pss_cons (ps_set (i := 9) sc__law_rules_right.nd rfl (Or.inl rfl) (pe_tup (pa_cons (pe_tup (pa_cons pe_int (pa_cons pe_int (pa_cons pe_int pa_nil)))) pa_nil)))
  (pss_cons (ps_set (i := 10) sc__law_rules_right.nd rfl (Or.inl rfl) (pe_lst (pa_cons (pe_tup (pa_cons (pv 4) (pa_cons (pv 9) (pa_cons pe_str pa_nil)))) (pa_cons (pe_tup (pa_cons (pv 5) (pa_cons (pv 9) (pa_cons pe_str pa_nil)))) (pa_cons (pe_tup (pa_cons (pv 6) (pa_cons (pv 5) (pa_cons pe_str pa_nil)))) (pa_cons (pe_tup (pa_cons (pv 5) (pa_cons (pv 6) (pa_cons pe_str pa_nil)))) pa_nil))))))
  (pss_cons (ps_set (i := 10) sc__law_rules_right.nd rfl (Or.inl rfl) (pe_op op_cat (pv 10) (pe_lst (pa_cons (pe_tup (pa_cons (pv 7) (pa_cons (pv 9) (pa_cons pe_str pa_nil)))) (pa_cons (pe_tup (pa_cons (pv 8) (pa_cons (pv 9) (pa_cons pe_str pa_nil)))) (pa_cons (pe_tup (pa_cons (pe_tup (pa_cons (pe_tup (pa_cons pe_int (pa_cons pe_int (pa_cons pe_int pa_nil)))) pa_nil)) (pa_cons (pv 4) (pa_cons pe_str pa_nil)))) pa_nil))))))
  (pss_cons (ps_for PassesOwn.never rfl (pi_list (pe_op op_cat (pv 10) (pe_lst (pa_cons (pe_tup (pa_cons (pe_tup (pa_cons (pe_tup (pa_cons pe_int (pa_cons pe_int (pa_cons pe_int pa_nil)))) pa_nil)) (pa_cons (pv 9) (pa_cons pe_str pa_nil)))) (pa_cons (pe_tup (pa_cons (pv 9) (pa_cons (pe_tup (pa_cons (pe_tup (pa_cons pe_int (pa_cons pe_int (pa_cons pe_int pa_nil)))) pa_nil)) (pa_cons pe_str pa_nil)))) pa_nil))))) (pg_tup (by rfl) (pgs_cons (pg_name (i := 11) sc__law_rules_right.nd rfl (Or.inl rfl)) (pgs_cons (pg_name (i := 12) sc__law_rules_right.nd rfl (Or.inl rfl)) (pgs_cons (pg_name (i := 13) sc__law_rules_right.nd rfl (Or.inl rfl)) pgs_nil))))
    (pss_cons (ps_asg (pe_def d_certify_evening (hr.mono (by decide)) (by rfl) (pa_cons (pe_makeI d_Rule_init (hr.mono (by decide)) (by rfl) T.g_Rule (pa_cons (pv 11) pa_nil) rule_made) (pa_cons (pe_makeI d_Rule_init (hr.mono (by decide)) (by rfl) T.g_Rule (pa_cons (pv 12) pa_nil) rule_made) pa_nil))) (pg_tup (by rfl) (pgs_cons (pg_name (i := 14) sc__law_rules_right.nd rfl (Or.inl rfl)) (pgs_cons (pg_name (i := 15) sc__law_rules_right.nd rfl (Or.inl rfl)) pgs_nil))))
  (pss_cons (ps_if (PW.pt (pw_or (pt_not (pt_val (pe_defG d_law_same h0 (hr.mono (by decide)) (by rfl) (pa_cons (pv 14) (pa_cons (pe_tup (pa_cons (pv 13) (pa_cons (pe_def d_law_spell (hr.mono (by decide)) (by rfl) (pa_cons (pv 11) pa_nil)) (pa_cons (pe_def d_law_spell (hr.mono (by decide)) (by rfl) (pa_cons (pv 12) pa_nil)) pa_nil)))) pa_nil))))) (pw_or1 (pt_not (pt_val (pe_defG d_law_judged h0 (hr.mono (by decide)) (by rfl) (pa_cons (pv 14) (pa_cons (pv 15) (pa_cons pe_bl pa_nil)))))))))
    (pss_one (ps_ret pe_bl))
    pss_nil)
  (pss_one (ps_if (PW.pt (pw_or (PW.pt (pw_and (pt_cmpR op_eq (pv 13) pe_str (nomark _)) (pw_and1 (pt_cmpR (op_neD hr.units) (pv 15) (pe_tup pa_nil) (nomark _))))) (pw_or1 (PW.pt (pw_and (pt_cmpR op_eq (pv 13) pe_str (nomark _)) (pw_and1 (pt_not (pt_val (pe_callB call_isi (by rfl) T.b_isinstance (by decide +kernel) (pa_cons (pv 15) (pa_cons (pe_bltn (v := .ty "str") (by rfl) T.b_str (by decide +kernel) rfl) pa_nil)))))))))))
    (pss_one (ps_ret pe_bl))
    pss_nil)))))
  (pss_one (ps_ret pe_bl)))))))))))), ?_⟩
    have wm : ∀ {i j : Int}, i.natAbs < 2 ^ 120 → j.natAbs < 2 ^ 120 → CMulW i j := fun h1 h2 => wide_mul (a := 120) (b := 120) h1 h2 (by decide) (by decide) (by decide)
    refine ⟨_, rfl, _, _, rfl, rfl, ⟨by decide, by decide, by decide⟩, a, _, _, rfl, by decide, by decide, hv, by omega, fun e H1 e0 e1 f1 v1 => ⟨_, _, rfl, rfl, _, rfl, a, 100, _, rfl, by decide, by decide, v1, by omega, fun pc H2 p0 p1 f2 v2 => ⟨_, _, rfl, ?_⟩⟩⟩
    refine ⟨_, rfl, _, _, rfl, rfl, ⟨by decide, by decide, by decide⟩, a, _, _, rfl, by decide, by decide, v2, by omega, fun mr H3 m0 m1 f3 v3 => ⟨_, _, rfl, rfl, ?_⟩⟩
    have e1' : e ≤ 10 ^ 28 := e1
    have m1' : mr ≤ 10 ^ 28 := m1
    have E0 : 1 ≤ 1 + e := by omega
    have E1 : 1 + e ≤ 10 ^ 29 := by omega
    have M0 : 1 ≤ 1 + mr := by omega
    have M1 : 1 + mr ≤ 10 ^ 29 := by omega
    have F3 := (f1.trans f2).trans f3
    clear f1 f2 f3 hv v1 v2 e1 m1
    refine ⟨(by show 3 ≤ sizeLine; decide), fun b1 hb1 => ⟨_, rfl, _, rfl, _, _, rfl, rfl, wm (j := 1 + e) (by decide) (by omega), _, rfl, (by show 3 ≤ sizeLine; decide), fun b2 hb2 => ⟨(by show 2 ≤ sizeLine; decide), fun tx htx => ?_⟩⟩⟩
    obtain ⟨sA, hTx⟩ := made2 (x := (0, 0, 100)) (y := (1 + e, 100 * (1 + e), pc)) hb1 hb2 htx
    refine ⟨_, rfl, (by show 3 ≤ sizeLine; decide), fun b3 hb3 => ⟨(by show 1 ≤ sizeLine; decide), fun ts hts => ?_⟩⟩
    obtain ⟨sB, hTs⟩ := made1 (x := (0, 1 + mr, 100)) hb3 hts
    refine ⟨_, rfl, _, _, rfl, rfl, wm (j := 1 + mr) (by decide) (by omega), (by show 3 ≤ sizeLine; decide), fun b4 hb4 => ⟨(by show 1 ≤ sizeLine; decide), fun tg htg => ⟨_, _, rfl, ?_⟩⟩⟩
    obtain ⟨sC, hTg⟩ := made1 (x := (0, 2 * (1 + mr), 100)) hb4 htg
    have hTx2 := (hTx.same sB).same sC
    have hTs2 := hTs.same sC
    have v4 := ((v3.same sA).same sB).same sC
    have F4 := F3.trans (Fx.of_same ((sA.trans sB).trans sC))
    clear hTx hTs sA sB sC F3 v3
    refine ⟨_, rfl, (by show 3 ≤ sizeLine; decide), fun b5 hb5 => ⟨_, rfl, _, rfl, _, rfl, _, _, rfl, rfl, wm (i := pc) (j := 1 + e) (by omega) (by omega), _, rfl, _, _, rfl, rfl, ?_⟩⟩
    have x5 := same_new (o := .tup [.int 0, .int 0, .int pc]) hb5
    have k5 := upd_at (o := .tup [.int 0, .int 0, .int pc]) hb5
    have v5 := v4.new hb5 (o := .tup [.int 0, .int 0, .int pc])
    have n5 := v4.ne hb5
    refine ⟨_, rfl, a, 99, _, rfl, by decide, by decide, v5, by omega, fun dr H5 d0 d1 f5 v6 => ?_⟩
    have k6 := f5 _ _ n5 k5
    refine ⟨_, _, rfl, rfl, (by show 3 ≤ sizeLine; decide), fun b6 hb6 => ⟨(by show 2 ≤ sizeLine; decide), fun tf htf => ?_⟩⟩
    have x6 := same_new (o := .tup (bandT (1 + e, pc * (1 + e), pc + 1 + dr))) hb6
    have x7 := same_new (o := .tup [.ref b5, .ref b6]) htf
    have hTf : BandsAt _ tf [(0, 0, pc), (1 + e, pc * (1 + e), pc + 1 + dr)] := bands_two (x7 _ _ (x6 _ _ k6)) (x7 _ _ (upd_at (o := .tup (bandT (1 + e, pc * (1 + e), pc + 1 + dr))) hb6)) (upd_at (o := .tup [.ref b5, .ref b6]) htf)
    have x67 := x6.trans x7
    have up5 : ∀ {t : Addr} {bs : List Band}, BandsAt _ t bs → BandsAt _ t bs := fun h => ((h.same x5).fw v5 f5).same x67
    have hTx3 := up5 hTx2
    have hTs3 := up5 hTs2
    have hTg3 := up5 hTg
    have v7 := v6.same x67
    have F5 := ((F4.trans (Fx.of_same x5)).trans f5).trans (Fx.of_same x67)
    clear hTx2 hTs2 hTg up5 v4 v5 v6 F4 f5 x5 k5 x6 x7 x67 k6 n5
    generalize hHc : upd (upd H5 b6 _) tf _ = Hc at *
    refine name_go ?_
    dsimp only
    refine seq_go (asg_go (tIf_cutV (fun v H' => ∃ (tc : Addr) (cs : List Band), v = .ref tc ∧ Same Hc H' ∧ BandsAt H' tc cs ∧ Known cs [(0, 0, 100)] false) (fun N hN => ?_) ?_))
    · refine ⟨_, rfl, _, _, rfl, rfl, _, rfl, ite2 (fun c => ?_) (fun c => ?_)⟩
      · have c' : 1 + e > 1 := of_decide_eq_true c
        refine ⟨(by show 3 ≤ sizeLine; decide), fun b7 hb7 => ⟨_, rfl, _, rfl, _, _, rfl, rfl, _, _, rfl, rfl, wm (j := 1 + e - 1) (by decide) (by omega), _, _, rfl, rfl, (by show 3 ≤ sizeLine; decide), fun b8 hb8 => ⟨(by show 2 ≤ sizeLine; decide), fun tc htc => ?_⟩⟩⟩
        obtain ⟨sD, hTc⟩ := made2 (x := (0, 0, 100)) (y := (1 + e, 100 * (1 + e - 1) - 1, 100)) hb7 hb8 htc
        exact hN _ _ ⟨tc, _, rfl, sD, hTc, known_down (by omega) E1⟩
      · have c' : ¬ 1 + e > 1 := fun z => c (decide_eq_true z)
        have e0' : e = 0 := by omega
        refine ⟨(by show 3 ≤ sizeLine; decide), fun b7 hb7 => ⟨_, rfl, (by show 3 ≤ sizeLine; decide), fun b8 hb8 => ⟨(by show 2 ≤ sizeLine; decide), fun tc htc => ?_⟩⟩⟩
        obtain ⟨sD, hTc⟩ := made2 (x := (0, 1, 0)) (y := (1 + e, 0, 0)) hb7 hb8 htc
        refine hN _ _ ⟨tc, _, rfl, sD, hTc, ?_⟩
        rw [e0']
        exact known_drop
    rintro v H8 ⟨tc, cs8, rfl, s8, hTc, kc⟩
    refine ⟨(by show 3 ≤ sizeLine; decide), fun b9 hb9 => ⟨(by show 1 ≤ sizeLine; decide), fun tm htm => ?_⟩⟩
    obtain ⟨sE, hTm⟩ := made1 (x := (0, 0, 100)) hb9 htm
    have S8 := s8.trans sE
    have hTx4 := hTx3.same S8
    have hTs4 := hTs3.same S8
    have hTg4 := hTg3.same S8
    have hTf4 := hTf.same S8
    have hTc4 := hTc.same sE
    have v8 := v7.same S8
    have F8 := F5.trans (Fx.of_same S8)
    clear hTx3 hTs3 hTg3 hTf hTc v7 F5 S8 s8 sE
    have e9 : bandT (0, 0, 100) = [.int 0, .int 0, .int 100] := rfl
    rw [e9] at hTx4 hTs4 hTg4 hTf4 hTc4 hTm v8 F8
    generalize hH9 : upd (upd H8 b9 (.tup [.int 0, .int 0, .int 100])) tm (.tup [.ref b9]) = H9 at *
    refine name_go ?_
    dsimp only
    have K1 : Known [(0, 0, 100), (1 + e, 100 * (1 + e), pc)] [(0, 0, 100)] true := known_taxed E0 E1 p0 (by omega)
    have K2 : Known [(0, 1 + mr, 100)] [(0, 0, 100)] true := by
      have := known_one (f := 1 + mr) (l := 100) (g := 0) (h := 100) (by omega) (by omega) (by decide) (by decide) (by decide) (by decide) (by decide) (by decide)
      rwa [decide_eq_true (by omega)] at this
    have K3 : Known [(0, 2 * (1 + mr), 100)] [(0, 1 + mr, 100)] true := by
      have := known_one (f := 2 * (1 + mr)) (l := 100) (g := 1 + mr) (h := 100) (by omega) (by omega) (by decide) (by decide) (by omega) (by omega) (by decide) (by decide)
      rwa [decide_eq_true (by omega)] at this
    have K4 : Known [(0, 1 + mr, 100)] [(0, 2 * (1 + mr), 100)] false := by
      have := known_one (f := 1 + mr) (l := 100) (g := 2 * (1 + mr)) (h := 100) (by omega) (by omega) (by decide) (by decide) (by omega) (by omega) (by decide) (by decide)
      rwa [decide_eq_false (by omega)] at this
    have K5 : Known [(0, 0, pc), (1 + e, pc * (1 + e), pc + 1 + dr)] [(0, 0, 100)] false := by
      have := known_falling (e := 1 + e) (s := pc) (d := 1 + dr) E0 E1 p0 (by omega) (by omega) (by omega)
      rwa [show pc + (1 + dr) = pc + 1 + dr by omega] at this
    have K7 : Known [(0, 0, 0)] [(0, 0, 100), (1 + e, 100 * (1 + e), pc)] true := known_zero E0 E1 p0 (by omega)
    have K8 : Known [(0, 0, 50)] [(0, 0, 100)] true := by
      have := known_one (f := 0) (l := 50) (g := 0) (h := 100) (by decide) (by decide) (by decide) (by decide) (by decide) (by decide) (by decide) (by decide)
      rwa [decide_eq_true (by omega)] at this
    have K9 : Known [(0, 0, 100)] [(0, 0, 50)] true := by
      have := known_one (f := 0) (l := 100) (g := 0) (h := 50) (by decide) (by decide) (by decide) (by decide) (by decide) (by decide) (by decide) (by decide)
      rwa [decide_eq_true (by omega)] at this
    have mk : ∀ {H' : Hp} {r t u : Addr} {bs cs : List Band} {m : Bool} {wd : Str}, wd = wordM m → H' r = none → BandsAt H' t bs → BandsAt H' u cs → Known bs cs m → RowQ (upd H' r (.tup [.ref t, .ref u, .str wd])) r := fun e h0 h1 h2 h3 => ⟨_, _, _, _, _, by rw [e]; exact upd_same, h1.same (same_new h0), h2.same (same_new h0), h3⟩
    refine ⟨_, rfl, _, rfl, (by show 3 ≤ sizeLine; decide), fun r1 h1 => ⟨_, rfl, _, rfl, (by show 3 ≤ sizeLine; decide), fun r2 h2 => ⟨_, rfl, _, rfl, (by show 3 ≤ sizeLine; decide), fun r3 h3 => ⟨_, rfl, _, rfl, (by show 3 ≤ sizeLine; decide), fun r4 h4 => ⟨(by show 4 ≤ sizeLine; decide), fun l1 hl1 => ?_⟩⟩⟩⟩⟩
    have q1 := mk (wd := "more") rfl h1 hTx4 hTm K1
    have x1 := same_new (o := .tup [.ref tx, .ref tm, .str "more"]) h1
    have q2 := mk (wd := "more") rfl h2 (hTs4.same x1) (hTm.same x1) K2
    have x2 := same_new (o := .tup [.ref ts, .ref tm, .str "more"]) h2
    have s2 := x1.trans x2
    have q3 := mk (wd := "more") rfl h3 (hTg4.same s2) (hTs4.same s2) K3
    have x3 := same_new (o := .tup [.ref tg, .ref ts, .str "more"]) h3
    have s3 := s2.trans x3
    have q4 := mk (wd := "not more") rfl h4 (hTs4.same s3) (hTg4.same s3) K4
    have x4 := same_new (o := .tup [.ref ts, .ref tg, .str "not more"]) h4
    have xl1 := same_new (o := .lst [.ref r1, .ref r2, .ref r3, .ref r4]) hl1
    have kl1 := upd_at (o := .lst [.ref r1, .ref r2, .ref r3, .ref r4]) hl1
    have s4 := (s3.trans x4).trans xl1
    have Q1 : ∀ r ∈ [r1, r2, r3, r4], RowQ _ r := fun r hr => by
      simp only [List.mem_cons, List.not_mem_nil, or_false] at hr
      rcases hr with rfl | rfl | rfl | rfl
      · exact (((q1.same x2).same x3).same x4).same xl1
      · exact ((q2.same x3).same x4).same xl1
      · exact (q3.same x4).same xl1
      · exact q4.same xl1
    clear q1 q2 q3 q4 s2 s3 x1 x2 x3 x4 xl1
    generalize upd (upd (upd (upd (upd H9 r1 (.tup [.ref tx, .ref tm, .str "more"])) r2 (.tup [.ref ts, .ref tm, .str "more"])) r3 (.tup [.ref tg, .ref ts, .str "more"])) r4 (.tup [.ref ts, .ref tg, .str "not more"])) l1 (.lst [.ref r1, .ref r2, .ref r3, .ref r4]) = Ha at *
    have hTf5 := hTf4.same s4
    have hTc5 := hTc4.same s4
    have hTm5 := hTm.same s4
    have hTx5 := hTx4.same s4
    have v9 := v8.same s4
    refine ⟨_, rfl, _, rfl, _, rfl, (by show 3 ≤ sizeLine; decide), fun r5 h5 => ⟨_, rfl, _, rfl, (by show 3 ≤ sizeLine; decide), fun r6 h6 => ⟨(by show 3 ≤ sizeLine; decide), fun b10 hb10 => ⟨(by show 1 ≤ sizeLine; decide), fun tz htz => ⟨_, rfl, (by show 3 ≤ sizeLine; decide), fun r7 h7 => ⟨(by show 3 ≤ sizeLine; decide), fun l2 hl2 => ?_⟩⟩⟩⟩⟩⟩
    have q5 := mk (wd := "not more") rfl h5 hTf5 hTm5 K5
    have x5 := same_new (o := .tup [.ref tf, .ref tm, .str "not more"]) h5
    have q6 := mk (wd := "not more") rfl h6 (hTc5.same x5) (hTm5.same x5) kc
    have x6 := same_new (o := .tup [.ref tc, .ref tm, .str "not more"]) h6
    obtain ⟨x7, hTz⟩ := made1 (x := (0, 0, 0)) hb10 htz
    have s7 := (x5.trans x6).trans x7
    have q7 := mk (wd := "more") rfl h7 hTz (hTx5.same s7) K7
    have e10 : bandT (0, 0, 0) = [.int 0, .int 0, .int 0] := rfl
    rw [e10] at x7 hTz s7
    have x8 := same_new (o := .tup [.ref tz, .ref tx, .str "more"]) h7
    have xl2 := same_new (o := .lst [.ref r5, .ref r6, .ref r7]) hl2
    have kl2 := upd_at (o := .lst [.ref r5, .ref r6, .ref r7]) hl2
    have s8' := (s7.trans x8).trans xl2
    have Q2 : ∀ r ∈ [r5, r6, r7], RowQ _ r := fun r hr => by
      simp only [List.mem_cons, List.not_mem_nil, or_false] at hr
      rcases hr with rfl | rfl | rfl
      · exact (((q5.same x6).same x7).same x8).same xl2
      · exact ((q6.same x7).same x8).same xl2
      · exact q7.same xl2
    have kl1b := s8' _ _ kl1
    refine ⟨l1, l2, _, _, rfl, rfl, kl1b, kl2, (by show 4 + 3 ≤ sizeLine; decide), fun l3 hl3 => ?_⟩
    refine name_go ?_
    dsimp only
    have xl3 := same_new (o := .lst ([.ref r1, .ref r2, .ref r3, .ref r4] ++ [.ref r5, .ref r6, .ref r7])) hl3
    have kl3 := upd_at (o := .lst ([.ref r1, .ref r2, .ref r3, .ref r4] ++ [.ref r5, .ref r6, .ref r7])) hl3
    have s9 := s8'.trans xl3
    have Q7 : ∀ r ∈ [r1, r2, r3, r4, r5, r6, r7], RowQ _ r := fun r hr => by
      rcases List.mem_append.mp (show r ∈ [r1, r2, r3, r4] ++ [r5, r6, r7] from hr) with m | m
      · exact (Q1 r m).same s9
      · exact (Q2 r m).same xl3
    have hTm6 := hTm5.same s9
    have v10 := v9.same s9
    have F10 := (F8.trans (Fx.of_same s4)).trans (Fx.of_same s9)
    clear q5 q6 q7 x5 x6 x7 s7 x8 xl2 s8' kl1b xl3 Q1 Q2 hTf5 hTc5 hTx5 hTz v9 s9
    have e7 : ([.ref r1, .ref r2, .ref r3, .ref r4] ++ [.ref r5, .ref r6, .ref r7] : List V) = [.ref r1, .ref r2, .ref r3, .ref r4, .ref r5, .ref r6, .ref r7] := rfl
    rw [e7] at kl3 Q7 hTm6 v10 F10
    refine ⟨_, rfl, (by show 3 ≤ sizeLine; decide), fun b11 hb11 => ⟨(by show 1 ≤ sizeLine; decide), fun ty hty => ⟨_, rfl, (by show 3 ≤ sizeLine; decide), fun r8 h8 => ⟨_, rfl, (by show 3 ≤ sizeLine; decide), fun b12 hb12 => ⟨(by show 1 ≤ sizeLine; decide), fun tw htw => ⟨(by show 3 ≤ sizeLine; decide), fun r9 h9 => ⟨(by show 2 ≤ sizeLine; decide), fun l4 hl4 => ?_⟩⟩⟩⟩⟩⟩⟩
    obtain ⟨y1, hTy⟩ := made1 (x := (0, 0, 50)) hb11 hty
    have w8 := mk (wd := "more") rfl h8 hTy (hTm6.same y1) K8
    have y2 := same_new (o := .tup [.ref ty, .ref tm, .str "more"]) h8
    obtain ⟨y3, hTw⟩ := made1 (x := (0, 0, 50)) hb12 htw
    have w9 := mk (wd := "more") rfl h9 (((hTm6.same y1).same y2).same y3) hTw K9
    have y4 := same_new (o := .tup [.ref tm, .ref tw, .str "more"]) h9
    have y5 := same_new (o := .lst [.ref r8, .ref r9]) hl4
    have kl4 := upd_at (o := .lst [.ref r8, .ref r9]) hl4
    have sY := (((y1.trans y2).trans y3).trans y4).trans y5
    refine ⟨l3, l4, _, _, rfl, rfl, sY _ _ kl3, kl4, (by show 7 + 2 ≤ sizeLine; decide), fun l5 hl5 => ?_⟩
    have y6 := same_new (o := .lst ([.ref r1, .ref r2, .ref r3, .ref r4, .ref r5, .ref r6, .ref r7] ++ [.ref r8, .ref r9])) hl5
    have kl5 := upd_at (o := .lst ([.ref r1, .ref r2, .ref r3, .ref r4, .ref r5, .ref r6, .ref r7] ++ [.ref r8, .ref r9])) hl5
    have sZ := sY.trans y6
    have Q9 : ∀ r ∈ [r1, r2, r3, r4, r5, r6, r7, r8, r9], RowQ _ r := fun r hr => by
      rcases List.mem_append.mp (show r ∈ [r1, r2, r3, r4, r5, r6, r7] ++ [r8, r9] from hr) with m | m
      · exact (Q7 r m).same sZ
      · simp only [List.mem_cons, List.not_mem_nil, or_false] at m
        rcases m with rfl | rfl
        · exact (((w8.same y3).same y4).same y5).same y6
        · exact (w9.same y5).same y6
    have vZ := v10.same sZ
    have FZ := F10.trans (Fx.of_same sZ)
    have kl5' : _ = some (HO.lst ([r1, r2, r3, r4, r5, r6, r7, r8, r9].map V.ref)) := kl5
    clear w8 w9 y1 y2 y3 y4 y5 y6 sY sZ kl4 kl5 Q7 v10 F10 hTm6 hTy hTw
    refine ⟨l5, rfl, ⟨_, SqL.of kl5'⟩, for_list (K := K) (xs := [r1, r2, r3, r4, r5, r6, r7, r8, r9].map V.ref) (fun i σ H' => ∃ (x11 x12 x13 x14 x15 : Option V), σ = [some (.ref a), some (.int (1 + e)), some (.int pc), some (.int (1 + mr)), some (.ref tx), some (.ref ts), some (.ref tg), some (.ref tf), some (.ref tc), some (.ref tm), some (.ref l3), x11, x12, x13, x14, x15] ∧ Same _ H') ⟨none, none, none, none, none, rfl, Same.refl _⟩ (fun i σ H' _ ⟨_, _, _, _, _, _, s2⟩ => SqL.of (s2 _ _ kl5')) ?_ ?_⟩
    · rintro i v σ H2 hi ⟨x11, x12, x13, x14, x15, rfl, s2⟩
      obtain ⟨rr, rfl, hrr⟩ := row_get (H := H) hi
      obtain ⟨t, u, bs, cs, m, k1, hB0, hC0, kn⟩ := (Q9 rr (List.mem_of_getElem? hrr)).same s2
      refine ⟨rr, _, rfl, SqT.of k1, rfl, _, _, rfl, _, _, rfl, _, _, rfl, rfl, ?_⟩
      refine ⟨_, rfl, t, bs, rfl, hB0, kn.g, fun p1 H5 hp1 s5 R1 => ⟨_, rfl, u, cs, rfl, hC0.same s5, kn.g', fun p2 H6 hp2 s6 R2 => ⟨p1, .ref p2, bs, cs, rfl, R1.same s6, .inr ⟨p2, rfl, R2, kn.up⟩, fun p3 H7 xs s7 sp1 E1 => ?_⟩⟩⟩
      obtain ⟨c, qv, hp, hcase⟩ := E1
      have S7 := (s5.trans s6).trans s7
      have hB7 := hB0.same S7
      have hC7 := hC0.same S7
      have ans := kn.ans xs sp1
      refine ⟨p3, _, rfl, SqT.of hp, rfl, _, _, rfl, _, _, rfl, rfl, ?_⟩
      rcases hcase with ⟨hn', hc, zz, rfl, hz⟩ | ⟨bx, hx, hc, rfl⟩
      · have em : m = true := by rw [← ans, hn']; rfl
        subst em
        have mo : moreAns bs cs xs = true := by
          unfold moreAns
          rw [kn.up, hn']
          rfl
        refine ⟨_, rfl, _, rfl, _, rfl, t, bs, rfl, hB7, kn.g, fun H8 s8 => ⟨_, rfl, u, cs, rfl, hC7.same s8, kn.g', fun H9 s9 => ⟨(by show 3 ≤ sizeLine; decide), fun c2 hc2 => ?_⟩⟩⟩
        have k2 : (upd H9 c2 (.tup [.str (wordM true), .str (pageOf bs), .str (pageOf cs)])) c2 = some (.tup [.str "more", .str (pageOf bs), .str (pageOf cs)]) := upd_same
        have S9 := (s8.trans s9).trans (same_new (o := .tup [.str (wordM true), .str (pageOf bs), .str (pageOf cs)]) hc2)
        have hc9 := S9 _ _ hc
        have hz9 := S9 _ _ hz
        obtain ⟨w1, w2, w3, w4, w5⟩ := show_pages fit_more kn.g kn.g'
        refine ⟨.ref c, .ref c2, _, rfl, .tup (SqT.of hc9) (.cons (.str _) (.cons (.str _) (.cons (.str _) .nil))), .tup (SqT.of k2) (.cons (.str _) (.cons (.str _) (.cons (.str _) .nil))), w1, w2, w3, w4, w5, ?_⟩
        refine ⟨_, rfl, ite2 (fun z => absurd z (by decide)) (fun _ => ?_)⟩
        refine ⟨_, rfl, _, rfl, .inl (.inr (.inl ⟨c, "more", [.str (pageOf bs), .str (pageOf cs)], .ref zz, true, rfl, by simp [chkTab], hc9, by simp, fun H6 s6 pp hpp Q' hQ => ⟨pp, .ref zz, bs, cs, true, rfl, SqT.of upd_same, kn.g, kn.g', .tup (xs := []) (ds := []) (SqT.of (same_new hpp _ _ (s6 _ _ hz9))) (fun H' _ => .nil) (by decide +kernel), fun H' b sb hb => by rw [hb xs sp1, mo]; exact hQ H' sb⟩, fun H12 s12 => ?_⟩))⟩
        refine ⟨_, rfl, ite2 (fun z => absurd z (by decide)) (fun _ => ?_)⟩
        refine ⟨_, rfl, rfl, _, rfl, ite2 (fun _ => ?_) (fun z => absurd rfl z)⟩
        refine ⟨_, rfl, (by show 0 ≤ sizeLine; decide), fun e2 he2 => ?_⟩
        have x2 := same_new (o := .tup []) he2
        refine ⟨.tuple [], .tuple [], .tup (xs := []) (ds := []) (SqT.of (x2 _ _ (s12 _ _ hz9))) .nil, .tup (xs := []) (ds := []) (SqT.of upd_same) .nil, by decide +kernel, by decide +kernel, _, rfl, ite2 (fun z => absurd z (by decide +kernel)) (fun _ => ?_)⟩
        refine ⟨_, rfl, rfl, _, rfl, ite2 (fun z => absurd z (by decide +kernel)) (fun _ => ite2 (fun z => absurd z (by decide)) (fun _ => ?_))⟩
        exact ⟨_, _, _, _, _, rfl, s2.trans ((S7.trans S9).trans (s12.trans x2))⟩
      · have em : m = false := by rw [← ans, hx]; rfl
        subst em
        obtain ⟨gk, hi', pk, no⟩ := shown_facts kn.g kn.g' kn.up sp1 hx
        refine ⟨_, rfl, _, rfl, _, rfl, t, bs, rfl, hB7, kn.g, fun H8 s8 => ⟨_, rfl, u, cs, rfl, hC7.same s8, kn.g', fun H9 s9 => ⟨(by show 3 ≤ sizeLine; decide), fun c2 hc2 => ?_⟩⟩⟩
        have k2 : (upd H9 c2 (.tup [.str (wordM false), .str (pageOf bs), .str (pageOf cs)])) c2 = some (.tup [.str "not more", .str (pageOf bs), .str (pageOf cs)]) := upd_same
        have S9 := (s8.trans s9).trans (same_new (o := .tup [.str (wordM false), .str (pageOf bs), .str (pageOf cs)]) hc2)
        have hc9 := S9 _ _ hc
        obtain ⟨w1, w2, w3, w4, w5⟩ := show_pages fit_notmore kn.g kn.g'
        refine ⟨.ref c, .ref c2, _, rfl, .tup (SqT.of hc9) (.cons (.str _) (.cons (.str _) (.cons (.str _) .nil))), .tup (SqT.of k2) (.cons (.str _) (.cons (.str _) (.cons (.str _) .nil))), w1, w2, w3, w4, w5, ?_⟩
        refine ⟨_, rfl, ite2 (fun z => absurd z (by decide)) (fun _ => ?_)⟩
        refine ⟨_, rfl, _, rfl, .inl (.inr (.inr ⟨c, "not more", [.str (pageOf bs), .str (pageOf cs)], .str (sheetOf (shownK bs cs bx)), true, rfl, by simp [chkTab], hc9, by simp, fun H6 s6 pp hpp Q' hQ => ⟨pp, bs, cs, shownK bs cs bx, rfl, SqT.of upd_same, kn.g, kn.g', gk, hi', pk, fun H' ms ns sb b1 b2 => by rw [no ms ns b1 b2]; exact hQ H' sb⟩, fun H12 s12 => ?_⟩))⟩
        refine ⟨_, rfl, ite2 (fun z => absurd z (by decide)) (fun _ => ?_)⟩
        refine ⟨_, rfl, rfl, _, rfl, ite2 (fun z => absurd z (by decide +kernel)) (fun _ => ite2 (fun z => absurd z (by decide)) (fun _ => ?_))⟩
        refine ⟨_, rfl, rfl, _, rfl, ite2 (fun _ => ?_) (fun z => absurd rfl z)⟩
        refine ⟨_, rfl, _, _, _, _, true, rfl, .ty _, .base (.str _), kit_ty (by decide +kernel), _, rfl, ite2 (fun z => absurd z (by decide)) (fun _ => ?_)⟩
        exact ⟨_, _, _, _, _, rfl, s2.trans ((S7.trans S9).trans s12)⟩
    · rintro σ H2 ⟨x11, x12, x13, x14, x15, rfl, s2⟩
      exact q _ (FZ.trans (Fx.of_same s2)) ((vZ.same s2).mono (by omega))
end

section
variable {P : Program} {w : World} {K : PySem.W.Frag} {mg : Str → Option Value} {base : Heap} {C CP : Addr}
theorem ok_purses91 {f : Addr} {fd : FuncData} (F : Fun K "_law_purses_right" "_law_purses_right" s__law_purses_right f fd) (T : Txt K mg C CP) (d_law_far : Def P w K mg base "_law_far" ["well", "top"] 2 spFar) (d_law_draw : Def P w K mg base "_law_draw" ["well", "many"] 1 spDraw)
    (d_Purse_init : IDef P w K mg base CP ["self", "kinds"] 5 (spInitK CP)) (d_certify_gifts : Def P w K mg base "certify_gifts" ["first", "second"] 7 (spCertG CP)) (d_certify_order : Def P w K mg base "certify_order" ["first", "second"] 5 (spCertO CP)) (d_law_same : GDef P w K mg base "_law_same" ["told", "due"] 1 (spSameD K)) (d_law_lines : Def P w K mg base "_law_lines" ["kinds"] 1 spSheet)
    (d_law_judged : GDef P w K mg base "_law_judged" ["told", "paper", "due"] 10 (spJud5 K)) : FnG P w K mg base 11 f fd ["well"] spRight93 := by
  refine Ev.Fun.okG F sc__law_purses_right (fun vs H Q E h => ?_) (fun cdv A outer s H vs Q E hr h0 h => ?_)
  · obtain ⟨a, n, rfl, _⟩ := h
    rfl
  · obtain ⟨a, n, rfl, hv, hn, q⟩ := h
    refine ⟨_, (pss_cons (ps_par (i := 1) (j := 2) (by rfl) sc__law_purses_right.nd rfl rfl (by decide) rfl rfl (pa_cons (pe_op op_add pe_int (pe_def d_law_far (hr.mono (by decide)) (by rfl) (pa_cons (pv 0) (pa_cons (pe_op op_pow pe_int pe_int) pa_nil)))) (pa_cons (pe_op op_add pe_int (pe_def d_law_far (hr.mono (by decide)) (by rfl) (pa_cons (pv 0) (pa_cons (pe_op op_pow pe_int pe_int) pa_nil)))) pa_nil)) (by rfl))
  (pss_cons (ps_set (i := 3) sc__law_purses_right.nd rfl (Or.inl rfl) (pe_op op_add pe_int (pe_def d_law_draw (hr.mono (by decide)) (by rfl) (pa_cons (pv 0) (pa_cons pe_int pa_nil)))))
  (pss_cons (ps_par (i := 4) (j := 5) (by rfl) sc__law_purses_right.nd rfl rfl (by decide) rfl rfl (pa_cons (pe_tup (pa_cons (pe_tup (pa_cons pe_int (pa_cons (pv 2) pa_nil))) (pa_cons (pe_tup (pa_cons (pe_op op_mulW pe_int (pv 1)) (pa_cons (pv 2) pa_nil))) pa_nil))) (pa_cons (pe_tup (pa_cons (pe_tup (pa_cons (pv 1) (pa_cons (pe_op op_mulW pe_int (pv 2)) pa_nil))) pa_nil)) pa_nil)) (by rfl))
  (pss_cons (ps_asg (pe_def d_certify_gifts (hr.mono (by decide)) (by rfl) (pa_cons (pe_makeI d_Purse_init (hr.mono (by decide)) (by rfl) T.g_Purse (pa_cons (pv 4) pa_nil) purse_made) (pa_cons (pe_makeI d_Purse_init (hr.mono (by decide)) (by rfl) T.g_Purse (pa_cons (pv 5) pa_nil) purse_made) pa_nil))) (pg_tup (by rfl) (pgs_cons (pg_name (i := 6) sc__law_purses_right.nd rfl (Or.inl rfl)) (pgs_cons (pg_name (i := 7) sc__law_purses_right.nd rfl (Or.inl rfl)) pgs_nil))))
  (pss_cons (ps_if (pt_not (pt_val (pe_defG d_law_same h0 (hr.mono (by decide)) (by rfl) (pa_cons (pv 6) (pa_cons (pe_tup (pa_cons pe_str (pa_cons (pe_def d_law_lines (hr.mono (by decide)) (by rfl) (pa_cons (pv 4) pa_nil)) (pa_cons (pe_def d_law_lines (hr.mono (by decide)) (by rfl) (pa_cons (pv 5) pa_nil)) (pa_cons (pe_op op_mulW (pv 1) (pv 2)) pa_nil))))) pa_nil)))))
    (pss_one (ps_ret pe_bl))
    pss_nil)
  (pss_cons (ps_if (PW.pt (pw_or (pt_cmpR (op_neD hr.units) (pv 7) (pe_tup (pa_cons (pe_tup (pa_cons (pe_op op_mulW pe_int (pv 1)) (pa_cons pe_int (pa_cons (pe_op op_mulW (pv 1) (pv 2)) pa_nil)))) pa_nil)) (nomark _)) (pw_or1 (pt_not (pt_val (pe_defG d_law_judged h0 (hr.mono (by decide)) (by rfl) (pa_cons (pv 6) (pa_cons (pv 7) (pa_cons pe_bl pa_nil)))))))))
    (pss_one (ps_ret pe_bl))
    pss_nil)
  (pss_cons (ps_if (PW.pt (pw_or (pt_cmpR op_notN (pe_def d_certify_gifts (hr.mono (by decide)) (by rfl) (pa_cons (pe_makeI d_Purse_init (hr.mono (by decide)) (by rfl) T.g_Purse (pa_cons (pv 5) pa_nil) purse_made) (pa_cons (pe_makeI d_Purse_init (hr.mono (by decide)) (by rfl) T.g_Purse (pa_cons (pv 4) pa_nil) purse_made) pa_nil))) pe_non (nomark _)) (pw_or1 (pt_cmpR (op_neD hr.units) (pe_ix ix_tup (pe_def d_certify_gifts (hr.mono (by decide)) (by rfl) (pa_cons (pe_makeI d_Purse_init (hr.mono (by decide)) (by rfl) T.g_Purse (pa_cons (pv 5) pa_nil) purse_made) (pa_cons (pe_makeI d_Purse_init (hr.mono (by decide)) (by rfl) T.g_Purse (pa_cons (pv 5) pa_nil) purse_made) pa_nil))) pe_int (fun _ _ => rfl)) (pe_tup pa_nil) (nomark _)))))
    (pss_one (ps_ret pe_bl))
    pss_nil)
  (pss_cons (ps_par (i := 8) (j := 9) (by rfl) sc__law_purses_right.nd rfl rfl (by decide) rfl rfl (pa_cons (pe_tup (pa_cons (pe_tup (pa_cons pe_int (pa_cons (pe_op op_mulW (pv 3) (pv 2)) pa_nil))) (pa_cons (pe_tup (pa_cons (pe_op op_mulW pe_int (pv 1)) (pa_cons (pe_op op_mulW (pv 3) (pv 2)) pa_nil))) pa_nil))) (pa_cons (pe_tup (pa_cons (pe_tup (pa_cons pe_int (pa_cons (pv 2) pa_nil))) (pa_cons (pe_tup (pa_cons (pe_op op_mulW (pe_op op_mulW pe_int (pv 1)) (pv 3)) (pa_cons (pv 2) pa_nil))) pa_nil))) pa_nil)) (by rfl))
  (pss_cons (ps_set (i := 10) sc__law_purses_right.nd rfl (Or.inl rfl) (pe_lst (pa_cons (pe_tup (pa_cons (pv 5) (pa_cons (pv 4) (pa_cons pe_str pa_nil)))) (pa_cons (pe_tup (pa_cons (pv 4) (pa_cons (pv 5) (pa_cons pe_str pa_nil)))) (pa_cons (pe_tup (pa_cons (pv 8) (pa_cons (pv 4) (pa_cons pe_str pa_nil)))) (pa_cons (pe_tup (pa_cons (pv 4) (pa_cons (pv 8) (pa_cons pe_str pa_nil)))) pa_nil))))))
  (pss_cons (ps_set (i := 10) sc__law_purses_right.nd rfl (Or.inl rfl) (pe_op op_cat (pv 10) (pe_lst (pa_cons (pe_tup (pa_cons (pv 4) (pa_cons (pv 9) (pa_cons pe_str pa_nil)))) (pa_cons (pe_tup (pa_cons (pv 9) (pa_cons (pv 4) (pa_cons pe_str pa_nil)))) (pa_cons (pe_tup (pa_cons (pe_tup (pa_cons (pe_tup (pa_cons pe_int (pa_cons (pv 2) pa_nil))) pa_nil)) (pa_cons (pv 5) (pa_cons pe_str pa_nil)))) pa_nil))))))
  (pss_cons (ps_for PassesOwn.never rfl (pi_list (pv 10)) (pg_tup (by rfl) (pgs_cons (pg_name (i := 11) sc__law_purses_right.nd rfl (Or.inl rfl)) (pgs_cons (pg_name (i := 12) sc__law_purses_right.nd rfl (Or.inl rfl)) (pgs_cons (pg_name (i := 13) sc__law_purses_right.nd rfl (Or.inl rfl)) pgs_nil))))
    (pss_cons (ps_asg (pe_def d_certify_order (hr.mono (by decide)) (by rfl) (pa_cons (pe_makeI d_Purse_init (hr.mono (by decide)) (by rfl) T.g_Purse (pa_cons (pv 11) pa_nil) purse_made) (pa_cons (pe_makeI d_Purse_init (hr.mono (by decide)) (by rfl) T.g_Purse (pa_cons (pv 12) pa_nil) purse_made) pa_nil))) (pg_tup (by rfl) (pgs_cons (pg_name (i := 6) sc__law_purses_right.nd rfl (Or.inl rfl)) (pgs_cons (pg_name (i := 7) sc__law_purses_right.nd rfl (Or.inl rfl)) pgs_nil))))
  (pss_one (ps_if (PW.pt (pw_or (pt_not (pt_val (pe_defG d_law_same h0 (hr.mono (by decide)) (by rfl) (pa_cons (pv 6) (pa_cons (pe_tup (pa_cons (pv 13) (pa_cons (pe_def d_law_lines (hr.mono (by decide)) (by rfl) (pa_cons (pv 11) pa_nil)) (pa_cons (pe_def d_law_lines (hr.mono (by decide)) (by rfl) (pa_cons (pv 12) pa_nil)) pa_nil)))) pa_nil))))) (pw_or1 (pt_not (pt_val (pe_defG d_law_judged h0 (hr.mono (by decide)) (by rfl) (pa_cons (pv 6) (pa_cons (pv 7) (pa_cons pe_bl pa_nil)))))))))
    (pss_one (ps_ret pe_bl))
    pss_nil))))
  (pss_one (ps_ret pe_bl))))))))))))), ?_⟩
    have wm : ∀ {i j : Int}, i.natAbs < 2 ^ 120 → j.natAbs < 2 ^ 120 → CMulW i j := fun h1 h2 => wide_mul (a := 120) (b := 120) h1 h2 (by decide) (by decide) (by decide)
    refine ⟨_, rfl, _, _, rfl, rfl, ⟨by decide, by decide, by decide⟩, a, _, _, rfl, by decide, by decide, hv, by omega, fun pe H1 pe0 pe1 f1 v1 => ⟨_, _, rfl, rfl, _, rfl, _, _, rfl, rfl, ⟨by decide, by decide, by decide⟩, a, _, _, rfl, by decide, by decide, v1, by omega, fun me H2 me0 me1 f2 v2 => ⟨_, _, rfl, rfl, _, _, rfl, ?_⟩⟩⟩
    refine ⟨_, rfl, a, 9, _, rfl, by decide, by decide, v2, by omega, fun te H3 te0 te1 f3 v3 => ⟨_, _, rfl, rfl, ?_⟩⟩
    have pe1' : pe ≤ 10 ^ 28 := pe1
    have me1' : me ≤ 10 ^ 28 := me1
    have p0 : 1 ≤ 1 + pe := by omega
    have p1 : 1 + pe ≤ 10 ^ 30 := by omega
    have m0 : 1 ≤ 1 + me := by omega
    have m1 : 1 + me ≤ 10 ^ 30 := by omega
    have F3 := (f1.trans f2).trans f3
    clear f1 f2 f3 hv v1 v2 pe1 me1
    refine ⟨_, rfl, (by show 2 ≤ sizeLine; decide), fun b1 hb1 => ⟨_, rfl, _, _, rfl, rfl, wm (j := 1 + pe) (by decide) (by omega), _, rfl, (by show 2 ≤ sizeLine; decide), fun b2 hb2 => ⟨(by show 2 ≤ sizeLine; decide), fun tp htp => ⟨_, rfl, _, rfl, _, _, rfl, rfl, wm (j := 1 + me) (by decide) (by omega), (by show 2 ≤ sizeLine; decide), fun b3 hb3 => ⟨(by show 1 ≤ sizeLine; decide), fun tw htw => ⟨_, _, rfl, ?_⟩⟩⟩⟩⟩⟩
    obtain ⟨sA, hKp⟩ := kinds_two (x := (0, 1 + me)) (y := (2 * (1 + pe), 1 + me)) hb1 hb2 htp
    obtain ⟨sB, hKw⟩ := kinds_one (k := (1 + pe, 2 * (1 + me))) hb3 htw
    have hKp1 : KindsAt _ tp (partedK (1 + pe) (1 + me)) := hKp.same sB
    have hKw1 : KindsAt _ tw (wholeK (1 + pe) (1 + me)) := hKw
    have v4 := (v3.same sA).same sB
    have F4 := F3.trans (Fx.of_same (sA.trans sB))
    clear hKp hKw sA sB v3 F3
    have gp := good_parted p0 p1 m0 m1
    have gw := good_whole p0 p1 m0 m1
    refine ⟨_, rfl, tp, _, rfl, hKp1, gp, fun r1 H5 hr1 s5 R1 => ⟨_, rfl, tw, _, rfl, hKw1.same s5, gw, fun r2 H6 hr2 s6 R2 => ⟨r1, r2, _, _, rfl, R1.same s6, R2, fun v H7 s7 G1 => ?_⟩⟩⟩
    have S7 := (s5.trans s6).trans s7
    have hKp7 := hKp1.same S7
    have hKw7 := hKw1.same S7
    have v7 := v4.same S7
    have F7 := F4.trans (Fx.of_same S7)
    clear hKp1 hKw1 v4 F4 R1 R2 s5 s6 s7 S7
    rcases G1 with ⟨e, _⟩ | ⟨pp, c, z, least, W, rfl, el, hw, hp, hc, hz⟩
    · rw [gift_parted p0 p1 m0 m1] at e
      cases e
    have hl : (1 + pe) * (1 + me) = least := by
      rw [gift_parted p0 p1 m0 m1] at el
      exact Option.some.inj el
    have hrows := rows_parted p0 p1 m0 m1 hw
    rw [hrows] at hz
    have pmb : ((1 + pe) * (1 + me)).natAbs < 10 ^ 120 := by
      have b := Int.mul_le_mul p1 m1 (by omega) (by decide)
      have b0 := Int.mul_nonneg (show 0 ≤ 1 + pe by omega) (show 0 ≤ 1 + me by omega)
      omega
    refine ⟨pp, _, rfl, SqT.of hp, rfl, _, _, rfl, _, _, rfl, rfl, ?_⟩
    refine ⟨_, rfl, _, rfl, tp, _, rfl, hKp7, gp, fun H8 s8 => ⟨_, rfl, tw, _, rfl, hKw7.same s8, gw, fun H9 s9 => ⟨_, rfl, _, rfl, _, _, rfl, rfl, wm (i := 1 + pe) (j := 1 + me) (by omega) (by omega), (by show 4 ≤ sizeLine; decide), fun c2 hc2 => ?_⟩⟩⟩
    have x2 := same_new (o := .tup [.str "gifts", .str (sheetOf (partedK (1 + pe) (1 + me))), .str (sheetOf (wholeK (1 + pe) (1 + me))), .int ((1 + pe) * (1 + me))]) hc2
    have k2 := upd_at (o := .tup [.str "gifts", .str (sheetOf (partedK (1 + pe) (1 + me))), .str (sheetOf (wholeK (1 + pe) (1 + me))), .int ((1 + pe) * (1 + me))]) hc2
    have S9 := (s8.trans s9).trans x2
    have hc9 := S9 _ _ hc
    have hz9 := hz.same S9
    rw [← hl] at hc9
    have fi := fit_int pmb
    have fi2 : Fit (.int ((1 + pe) * (1 + me))) 70002 1 := fi.mono (by decide) (by decide)
    have fg : Fit (.str ("gifts" : Str)) 70002 1 := fit_str (n := 7000) (by decide +kernel) (by decide +kernel)
    obtain ⟨w1, w2, w3, w4, w5⟩ := show_tuple (n := 70002) (d := 1) (xs := [.str "gifts", .str (sheetOf (partedK (1 + pe) (1 + me))), .str (sheetOf (wholeK (1 + pe) (1 + me))), .int ((1 + pe) * (1 + me))]) (by simp) (fits_cons fg (fits_cons (fit_sheet gp) (fits_cons (fit_sheet gw) (fits_cons fi2 fits_nil)))) (by decide) (by show 4 * (70002 + 2) ≤ _; decide)
    refine ⟨.ref c, .ref c2, _, rfl, .tup (SqT.of hc9) (.cons (.str _) (.cons (.str _) (.cons (.str _) (.cons (.int _) .nil)))), .tup (SqT.of k2) (.cons (.str _) (.cons (.str _) (.cons (.str _) (.cons (.int _) .nil)))), w1, w2, w3, w4, w5, ?_⟩
    refine ⟨_, rfl, ite2 (fun z => absurd z (by decide)) (fun _ => ?_)⟩
    have s6' := hp
    have hKp9 := hKp7.same S9
    have hKw9 := hKw7.same S9
    have v9 := v7.same S9
    have F9 := F7.trans (Fx.of_same S9)
    clear hKp7 hKw7 v7 F7 hz hc hp s6' k2 x2 s8 s9
    generalize (upd H9 c2 (.tup [.str "gifts", .str (sheetOf (partedK (1 + pe) (1 + me))), .str (sheetOf (wholeK (1 + pe) (1 + me))), .int ((1 + pe) * (1 + me))])) = HA at *
    -- the rows
    refine ⟨_, rfl, _, rfl, _, _, rfl, rfl, wm (j := 1 + pe) (by decide) (by omega), _, rfl, _, rfl, _, _, rfl, rfl, wm (i := 1 + pe) (j := 1 + me) (by omega) (by omega), (by show 3 ≤ sizeLine; decide), fun b4 hb4 => ⟨(by show 1 ≤ sizeLine; decide), fun t4 ht4 => ?_⟩⟩
    obtain ⟨sC, hT4⟩ := made1 (x := (2 * (1 + pe), 0, (1 + pe) * (1 + me))) hb4 ht4
    obtain ⟨zs, z1, zR⟩ := hz9.rows
    have zD : BandsAt HA z [(2 * (1 + pe), 0, (1 + pe) * (1 + me))] := ⟨zs, z1, zR.len, zR.at_⟩
    refine ⟨_, _, (zD.same sC).dp, hT4.dp, shaped_bands _, shaped_bands _, ?_⟩
    rw [eqv_bands, decide_eq_true rfl]
    refine ⟨_, rfl, ite2 (fun z => absurd z (by decide)) (fun _ => ?_)⟩
    have hc10 := sC _ _ hc9
    have hz10 : RowsAt tripT _ z [(2 * (1 + pe), 0, (1 + pe) * (1 + me))] := hz9.same sC
    have gt : giftsB [(2 * (1 + pe), 0, (1 + pe) * (1 + me))] W = true := by
      have := gifts_true gp gw el hw
      rwa [hrows] at this
    refine ⟨_, rfl, _, rfl, .inr ⟨c, "gifts", [.str (sheetOf (partedK (1 + pe) (1 + me))), .str (sheetOf (wholeK (1 + pe) (1 + me))), .int ((1 + pe) * (1 + me))], .ref z, true, rfl, by simp [chkTab], hc10, by simp, fun H6 s6 qq hqq Q' hQ => ⟨qq, z, _, _, (1 + pe) * (1 + me), [(2 * (1 + pe), 0, (1 + pe) * (1 + me))], rfl, SqT.of upd_same, gp, gw, hz10.same (s6.trans (same_new hqq)), by simp, fun H' b sb h1 h2 => ?_⟩, fun H12 s12 => ?_⟩⟩
    · have hb := h1 W hw
      rw [gt, gift_parted p0 p1 m0 m1] at hb
      simp at hb
      rw [hb]
      exact hQ H' sb
    refine ⟨_, rfl, ite2 (fun z => absurd z (by decide)) (fun _ => ?_)⟩
    have S12 := sC.trans s12
    have hKp12 := hKp9.same S12
    have hKw12 := hKw9.same S12
    have v12 := v9.same S12
    have F12 := F9.trans (Fx.of_same S12)
    clear hKp9 hKw9 v9 F9 S12 hc10 hz10 hc9 hz9 sC hT4 zD z1 zR
    refine ⟨_, rfl, tw, _, rfl, hKw12, gw, fun r3 H13 hr3 s13 R3 => ⟨_, rfl, tp, _, rfl, hKp12.same s13, gp, fun r4 H14 hr4 s14 R4 => ⟨r3, r4, _, _, rfl, R3.same s14, R4, fun v' H15 s15 G2 => ?_⟩⟩⟩
    have S15 := (s13.trans s14).trans s15
    rcases G2 with ⟨_, rfl⟩ | ⟨pp', c', z', least', W', rfl, el', _⟩
    rotate_left
    · rw [gift_back p0 p1 m0 m1] at el'
      cases el'
    refine ⟨rfl, _, rfl, ite2 (fun z => absurd z (by decide)) (fun _ => ?_)⟩
    have hKp15 := hKp12.same S15
    have hKw15 := hKw12.same S15
    have v15 := v12.same S15
    have F15 := F12.trans (Fx.of_same S15)
    clear hKp12 hKw12 v12 F12 S15 R3 R4 s13 s14 s15
    refine ⟨_, rfl, tw, _, rfl, hKw15, gw, fun r5 H16 hr5 s16 R5 => ⟨_, rfl, tw, _, rfl, hKw15.same s16, gw, fun r6 H17 hr6 s17 R6 => ⟨r5, r6, _, _, rfl, R5.same s17, R6, fun v' H18 s18 G3 => ?_⟩⟩⟩
    have S18 := (s16.trans s17).trans s18
    rcases G3 with ⟨e, _⟩ | ⟨pp', c', z', least', W', rfl, el', hw', hp', hc', hz'⟩
    · rw [gift_none p0 p1 m0 m1] at e
      cases e
    rw [rows_whole p0 p1 m0 m1 hw'] at hz'
    obtain ⟨ws, w1', wR⟩ := hz'.rows
    have wl := wR.len
    obtain rfl : ws = [] := List.eq_nil_of_length_eq_zero wl
    refine ⟨pp', _, 1, _, rfl, rfl, SqT.of hp', at1, (by show 0 ≤ sizeLine; decide), fun e5 he5 => ?_⟩
    have x5 := same_new (o := .tup []) he5
    refine ⟨.tuple [], .tuple [], .tup (xs := []) (ds := []) (SqT.of (x5 _ _ w1')) .nil, .tup (xs := []) (ds := []) (SqT.of upd_same) .nil, by decide +kernel, by decide +kernel, _, rfl, ite2 (fun z => absurd z (by decide +kernel)) (fun _ => ?_)⟩
    have S19 := S18.trans x5
    have hKp19 := hKp15.same S19
    have hKw19 := hKw15.same S19
    have v19 := v15.same S19
    have F19 := F15.trans (Fx.of_same S19)
    clear hKp15 hKw15 v15 F15 S19 S18 R5 R6 s16 s17 s18 hz' hp' hc' w1' wR
    generalize (upd H18 e5 (.tup [])) = HB at *
    have tm : ((2 + te) * (1 + me)).natAbs < 2 ^ 120 := by
      have b := Int.mul_le_mul_of_nonneg_right (show 2 + te ≤ 11 by omega) (show 0 ≤ 1 + me by omega)
      have b0 := Int.mul_nonneg (show 0 ≤ 2 + te by omega) (show 0 ≤ 1 + me by omega)
      omega
    refine ⟨_, rfl, _, rfl, _, _, rfl, rfl, wm (i := 2 + te) (j := 1 + me) (by omega) (by omega), (by show 2 ≤ sizeLine; decide), fun b5 hb5 => ⟨_, rfl, _, _, rfl, rfl, wm (j := 1 + pe) (by decide) (by omega), _, rfl, _, rfl, _, _, rfl, rfl, wm (i := 2 + te) (j := 1 + me) (by omega) (by omega), (by show 2 ≤ sizeLine; decide), fun b6 hb6 => ⟨(by show 2 ≤ sizeLine; decide), fun to hto => ⟨_, rfl, (by show 2 ≤ sizeLine; decide), fun b7 hb7 => ⟨_, rfl, _, _, rfl, rfl, wm (j := 1 + pe) (by decide) (by omega), _, rfl, _, _, rfl, rfl, wm (i := 2 * (1 + pe)) (j := 2 + te) (by omega) (by omega), _, rfl, (by show 2 ≤ sizeLine; decide), fun b8 hb8 => ⟨(by show 2 ≤ sizeLine; decide), fun tr htr => ⟨_, _, rfl, ?_⟩⟩⟩⟩⟩⟩⟩
    obtain ⟨sD, hTo⟩ := kinds_two (x := (0, (2 + te) * (1 + me))) (y := (2 * (1 + pe), (2 + te) * (1 + me))) hb5 hb6 hto
    obtain ⟨sE, hTr⟩ := kinds_two (x := (0, 1 + me)) (y := (2 * (1 + pe) * (2 + te), 1 + me)) hb7 hb8 htr
    obtain ⟨go, o1, o2⟩ := even_often p0 p1 m0 m1 (t := 2 + te) (by omega) (by omega)
    obtain ⟨gr, c1, c2'⟩ := even_richer p0 p1 m0 m1 (t := 2 + te) (by omega) (by omega)
    obtain ⟨gz, zz1⟩ := even_nothing p0 p1 m0 m1
    have we := whole_even p0 p1 m0 m1
    have pu := parted_uneven p0 p1 m0 m1
    have hTo2 := hTo.same sE
    have S20 := sD.trans sE
    have hKp20 := hKp19.same S20
    have hKw20 := hKw19.same S20
    have v20 := v19.same S20
    have F20 := F19.trans (Fx.of_same S20)
    clear hTo hKp19 hKw19 v19 F19 S20 sD sE
    generalize partedK (1 + pe) (1 + me) = KP at *
    generalize wholeK (1 + pe) (1 + me) = KW at *
    have mk : ∀ {H' : Hp} {r t u : Addr} {ks ms : List Kind} {b : Bool} {wd : Str}, wd = wordE b → H' r = none → KindsAt H' t ks → GoodK ks → KindsAt H' u ms → GoodK ms → asE ks ms = b → RowO (upd H' r (.tup [.ref t, .ref u, .str wd])) r := fun e h0 h1 g1 h2 g2 h3 => ⟨_, _, _, _, _, by rw [e]; exact upd_same, h1.same (same_new h0), g1, h2.same (same_new h0), g2, h3⟩
    refine ⟨_, rfl, _, rfl, (by show 3 ≤ sizeLine; decide), fun q1 h1 => ⟨_, rfl, _, rfl, (by show 3 ≤ sizeLine; decide), fun q2 h2 => ⟨_, rfl, _, rfl, (by show 3 ≤ sizeLine; decide), fun q3 h3 => ⟨_, rfl, _, rfl, (by show 3 ≤ sizeLine; decide), fun q4 h4 => ⟨(by show 4 ≤ sizeLine; decide), fun l1 hl1 => ?_⟩⟩⟩⟩⟩
    have e1 := mk (wd := "even") rfl h1 hKw20 gw hKp20 gp we
    have x1 := same_new (o := .tup [.ref tw, .ref tp, .str "even"]) h1
    have e2 := mk (wd := "uneven") rfl h2 (hKp20.same x1) gp (hKw20.same x1) gw pu
    have x2 := same_new (o := .tup [.ref tp, .ref tw, .str "uneven"]) h2
    have s2 := x1.trans x2
    have e3 := mk (wd := "even") rfl h3 (hTo2.same s2) go (hKp20.same s2) gp o1
    have x3 := same_new (o := .tup [.ref to, .ref tp, .str "even"]) h3
    have s3 := s2.trans x3
    have e4 := mk (wd := "even") rfl h4 (hKp20.same s3) gp (hTo2.same s3) go o2
    have x4 := same_new (o := .tup [.ref tp, .ref to, .str "even"]) h4
    have xl1 := same_new (o := .lst [.ref q1, .ref q2, .ref q3, .ref q4]) hl1
    have kl1 := upd_at (o := .lst [.ref q1, .ref q2, .ref q3, .ref q4]) hl1
    have s4 := (s3.trans x4).trans xl1
    have Q1 : ∀ r ∈ [q1, q2, q3, q4], RowO _ r := fun r hr => by
      simp only [List.mem_cons, List.not_mem_nil, or_false] at hr
      rcases hr with rfl | rfl | rfl | rfl
      · exact (((e1.same x2).same x3).same x4).same xl1
      · exact ((e2.same x3).same x4).same xl1
      · exact (e3.same x4).same xl1
      · exact e4.same xl1
    clear e1 e2 e3 e4 s2 s3 x1 x2 x3 x4 xl1
    have hKp21 := hKp20.same s4
    have hKw21 := hKw20.same s4
    have hTr21 := hTr.same s4
    have v21 := v20.same s4
    have F21 := F20.trans (Fx.of_same s4)
    clear hKp20 hKw20 hTr v20 F20 s4 hTo2
    refine ⟨_, rfl, _, rfl, _, rfl, (by show 3 ≤ sizeLine; decide), fun q5 h5 => ⟨_, rfl, _, rfl, (by show 3 ≤ sizeLine; decide), fun q6 h6 => ⟨_, rfl, (by show 2 ≤ sizeLine; decide), fun b9 hb9 => ⟨(by show 1 ≤ sizeLine; decide), fun tn htn => ⟨_, rfl, (by show 3 ≤ sizeLine; decide), fun q7 h7 => ⟨(by show 3 ≤ sizeLine; decide), fun l2 hl2 => ?_⟩⟩⟩⟩⟩⟩
    have e5 := mk (wd := "even") rfl h5 hKp21 gp hTr21 gr c2'
    have x5 := same_new (o := .tup [.ref tp, .ref tr, .str "even"]) h5
    have e6 := mk (wd := "even") rfl h6 (hTr21.same x5) gr (hKp21.same x5) gp c1
    have x6 := same_new (o := .tup [.ref tr, .ref tp, .str "even"]) h6
    obtain ⟨x7, hTn⟩ := kinds_one (k := (0, 1 + me)) hb9 htn
    have s7 := (x5.trans x6).trans x7
    have e7 := mk (wd := "even") rfl h7 hTn gz (hKw21.same s7) gw zz1
    have x8 := same_new (o := .tup [.ref tn, .ref tw, .str "even"]) h7
    have xl2 := same_new (o := .lst [.ref q5, .ref q6, .ref q7]) hl2
    have kl2 := upd_at (o := .lst [.ref q5, .ref q6, .ref q7]) hl2
    have s8' := (s7.trans x8).trans xl2
    have Q2 : ∀ r ∈ [q5, q6, q7], RowO _ r := fun r hr => by
      simp only [List.mem_cons, List.not_mem_nil, or_false] at hr
      rcases hr with rfl | rfl | rfl
      · exact (((e5.same x6).same x7).same x8).same xl2
      · exact ((e6.same x7).same x8).same xl2
      · exact e7.same xl2
    refine ⟨l1, l2, _, _, rfl, rfl, s8' _ _ kl1, kl2, (by show 4 + 3 ≤ sizeLine; decide), fun l3 hl3 => ?_⟩
    refine name_go ?_
    dsimp only
    have xl3 := same_new (o := .lst ([.ref q1, .ref q2, .ref q3, .ref q4] ++ [.ref q5, .ref q6, .ref q7])) hl3
    have kl3 := upd_at (o := .lst ([.ref q1, .ref q2, .ref q3, .ref q4] ++ [.ref q5, .ref q6, .ref q7])) hl3
    have s9 := s8'.trans xl3
    have Q7 : ∀ r ∈ [q1, q2, q3, q4, q5, q6, q7], RowO _ r := fun r hr => by
      rcases List.mem_append.mp (show r ∈ [q1, q2, q3, q4] ++ [q5, q6, q7] from hr) with m | m
      · exact (Q1 r m).same s9
      · exact (Q2 r m).same xl3
    have v22 := v21.same s9
    have F22 := F21.trans (Fx.of_same s9)
    have kl3' : _ = some (HO.lst ([q1, q2, q3, q4, q5, q6, q7].map V.ref)) := kl3
    clear e5 e6 e7 x5 x6 x7 s7 x8 xl2 s8' xl3 Q1 Q2 v21 F21 s9
    refine ⟨_, rfl, l3, rfl, ⟨_, SqL.of kl3'⟩, for_list (K := K) (xs := [q1, q2, q3, q4, q5, q6, q7].map V.ref) (fun i σ H' => ∃ (x6 x7 x11 x12 x13 : Option V), σ = [some (.ref a), some (.int (1 + pe)), some (.int (1 + me)), some (.int (2 + te)), some (.ref tp), some (.ref tw), x6, x7, some (.ref to), some (.ref tr), some (.ref l3), x11, x12, x13] ∧ Same _ H') ⟨_, _, none, none, none, rfl, Same.refl _⟩ (fun i σ H' _ ⟨_, _, _, _, _, _, s2⟩ => SqL.of (s2 _ _ kl3')) ?_ ?_⟩
    · rintro i v σ H2 hi ⟨x6, x7, x11, x12, x13, rfl, s2⟩
      obtain ⟨rr, rfl, hrr⟩ := row_get (H := H) hi
      obtain ⟨t, u, ks, ms, b, k1, hB0, g0, hC0, g0', kn⟩ := (Q7 rr (List.mem_of_getElem? hrr)).same s2
      refine ⟨rr, _, rfl, SqT.of k1, rfl, _, _, rfl, _, _, rfl, _, _, rfl, rfl, ?_⟩
      refine ⟨_, rfl, t, ks, rfl, hB0, g0, fun r1 H7 hr1 s7 R1 => ⟨_, rfl, u, ms, rfl, hC0.same s7, g0', fun r2 H8 hr2 s8 R2 => ⟨r1, r2, ks, ms, rfl, R1.same s8, R2, fun c1 H9 s9 O1 => ?_⟩⟩⟩
      obtain ⟨c, zz, hp, hcase⟩ := O1
      have S9 := (s7.trans s8).trans s9
      have hK9 := hB0.same S9
      have hM9 := hC0.same S9
      refine ⟨c1, _, rfl, SqT.of hp, rfl, _, _, rfl, _, _, rfl, rfl, ?_⟩
      rcases hcase with ⟨cn, hc, hz⟩ | ⟨e, ce, hc, hz⟩
      · have ev := even_of_cross g0 g0' cn
        have eb : b = true := by rw [← kn, ev]
        subst eb
        obtain ⟨w1, w2, w3, w4, w5⟩ := show_claim fit_even g0 g0'
        refine ⟨_, rfl, _, rfl, _, rfl, t, ks, rfl, hK9, g0, fun H11 s11 => ⟨_, rfl, u, ms, rfl, hM9.same s11, g0', fun H12 s12 => ⟨(by show 3 ≤ sizeLine; decide), fun c2 hc2 => ?_⟩⟩⟩
        have k2 : (upd H12 c2 (.tup [.str (wordE true), .str (sheetOf ks), .str (sheetOf ms)])) c2 = some (.tup [.str "even", .str (sheetOf ks), .str (sheetOf ms)]) := upd_same
        have s1012 := (s11.trans s12).trans (same_new (o := .tup [.str (wordE true), .str (sheetOf ks), .str (sheetOf ms)]) hc2)
        have hc12 := s1012 _ _ hc
        have hz12 := s1012 _ _ hz
        refine ⟨.ref c, .ref c2, _, rfl, dp_claim hc12, dp_claim k2, w1, w2, w3, w4, w5, ?_⟩
        refine ⟨_, rfl, ite2 (fun z => absurd z (by decide)) (fun _ => ?_)⟩
        refine ⟨_, rfl, _, rfl, .inl (.inl (.inl ⟨c, "even", [.str (sheetOf ks), .str (sheetOf ms)], .ref zz, true, rfl, by simp [chkTab], hc12, by simp, fun H1 s1 pp hpp Q' hQ => ⟨pp, .ref zz, ks, ms, true, rfl, SqT.of upd_same, g0, g0', .tup (xs := []) (ds := []) (SqT.of (same_new hpp _ _ (s1 _ _ hz12))) (fun H' _ => .nil) (by decide +kernel), by rw [ev]; exact hQ⟩, fun H14 s14 => ?_⟩))⟩
        refine ⟨_, rfl, ite2 (fun z => absurd z (by decide)) (fun _ => ?_)⟩
        exact ⟨_, _, _, _, _, rfl, s2.trans (S9.trans (s1012.trans s14))⟩
      · obtain ⟨ev, e0, e1, el, un⟩ := less_of_cross g0 g0' ce
        have eb : b = false := by rw [← kn, ev]
        subst eb
        have pk1 := g0.people_pos
        have pk2 := g0.people_le
        obtain ⟨w1, w2, w3, w4, w5⟩ := show_claim fit_uneven g0 g0'
        refine ⟨_, rfl, _, rfl, _, rfl, t, ks, rfl, hK9, g0, fun H11 s11 => ⟨_, rfl, u, ms, rfl, hM9.same s11, g0', fun H12 s12 => ⟨(by show 3 ≤ sizeLine; decide), fun c2 hc2 => ?_⟩⟩⟩
        have k2 : (upd H12 c2 (.tup [.str (wordE false), .str (sheetOf ks), .str (sheetOf ms)])) c2 = some (.tup [.str "uneven", .str (sheetOf ks), .str (sheetOf ms)]) := upd_same
        have s1012 := (s11.trans s12).trans (same_new (o := .tup [.str (wordE false), .str (sheetOf ks), .str (sheetOf ms)]) hc2)
        have hc12 := s1012 _ _ hc
        have hz12 := s1012 _ _ hz
        refine ⟨.ref c, .ref c2, _, rfl, dp_claim hc12, dp_claim k2, w1, w2, w3, w4, w5, ?_⟩
        refine ⟨_, rfl, ite2 (fun z => absurd z (by decide)) (fun _ => ?_)⟩
        refine ⟨_, rfl, _, rfl, .inl (.inl (.inr ⟨c, "uneven", [.str (sheetOf ks), .str (sheetOf ms)], .ref zz, true, rfl, by simp [chkTab], hc12, by simp, fun H1 s1 pp hpp Q' hQ => ⟨pp, .ref zz, ks, ms, some [e, peopleOf ks], rfl, SqT.of upd_same, g0, g0', .nums (ns := [e, peopleOf ks]) (SqT.of (same_new hpp _ _ (s1 _ _ hz12))) (by simp), fun p w h => (by cases h; omega), by rw [un]; exact hQ⟩, fun H14 s14 => ?_⟩))⟩
        refine ⟨_, rfl, ite2 (fun z => absurd z (by decide)) (fun _ => ?_)⟩
        exact ⟨_, _, _, _, _, rfl, s2.trans (S9.trans (s1012.trans s14))⟩
    · rintro σ H2 ⟨x6, x7, x11, x12, x13, rfl, s2⟩
      exact q _ (F22.trans (Fx.of_same s2)) ((v22.same s2).mono (by omega))
end

section
variable {P : Program} {w : World} {K : PySem.W.Frag} {mg : Str → Option Value} {base : Heap} {C CP : Addr}
theorem ok_law91 {f : Addr} {fd : FuncData} (F : Fun K "law" "law" s_law f fd) (T : Txt K mg C CP) (d_law_well : Def P w K mg base "_law_well" ["script", "at"] 1 (spGwell K)) (d_law_rules_right : GDef P w K mg base "_law_rules_right" ["well"] 14 spRight93) (d_law_purses_right : GDef P w K mg base "_law_purses_right" ["well"] 11 spRight93) : FnG P w K mg base 15 f fd ["script"] (spLaw K) := by
  refine Ev.Fun.okG F sc_law (fun vs H Q E h => ?_) (fun cdv A outer s H vs Q E hr h0 h => ?_)
  · obtain ⟨a, ns, rfl, _⟩ := h
    rfl
  · obtain ⟨a, ns, rfl, hS, hlen, q⟩ := h
    refine ⟨_, (pss_cons (ps_for PassesOwn.never rfl (pi_range1 (by rfl) T.b_range (pa_cons (pe_callB (call_max2 rfl) (by rfl) T.b_max (by decide +kernel) (pa_cons pe_int (pa_cons (pe_callB (call_min2 rfl) (by rfl) T.b_min (by decide +kernel) (pa_cons (pe_callB call_len_seq (by rfl) T.b_len (by decide +kernel) (pa_cons (pv 0) pa_nil)) (pa_cons pe_int pa_nil))) pa_nil))) pa_nil)) (pg_name (i := 1) sc_law.nd rfl (Or.inl rfl))
    (pss_cons (ps_set (i := 2) sc_law.nd rfl (Or.inl rfl) (pe_def d_law_well (hr.mono (by decide)) (by rfl) (pa_cons (pv 0) (pa_cons (pv 1) pa_nil))))
  (pss_one (ps_if (PW.pt (pw_or (pt_not (pt_val (pe_defG d_law_rules_right h0 (hr.mono (by decide)) (by rfl) (pa_cons (pv 2) pa_nil)))) (pw_or1 (pt_not (pt_val (pe_defG d_law_purses_right h0 (hr.mono (by decide)) (by rfl) (pa_cons (pv 2) pa_nil)))))))
    (pss_one (ps_ret pe_bl))
    pss_nil))))
  (pss_one (ps_ret pe_bl))), ?_⟩
    refine ⟨_, rfl, a, _, rfl, .inl hS, _, _, rfl, 2, _, rfl, _, rfl, ?_⟩
    obtain ⟨b1, b2, b3⟩ := lap_len (L := ((ns.map V.int).length : Int)) (top := 6) (by omega) (by rw [List.length_map]; omega) (by decide) (by decide)
    refine ⟨b1, b2, for_range (lo := 0) (n := _) (fun i σ H' => ∃ (x1 x2 : Option V), σ = [some (.ref a), x1, x2] ∧ Same H H') ⟨none, none, rfl, Same.refl _⟩ ?_ ?_⟩
    · rintro i σ H1 hi ⟨x1, x2, rfl, s1⟩
      refine ⟨_, rfl, _, rfl, a, ns, _, rfl, s1.seq hS, hlen, by omega, by omega, fun p H2 hp s2 v2 => ?_⟩
      refine ⟨_, rfl, p, _, rfl, v2, by omega, fun H3 f3 v3 => ⟨_, rfl, ite2 (fun z => absurd z (by decide)) (fun _ => ⟨_, rfl, p, _, rfl, v3, by omega, fun H4 f4 v4 => ⟨_, rfl, ite2 (fun z => absurd z (by decide)) (fun _ => ⟨_, _, rfl, fun b o e => ?_⟩)⟩⟩)⟩⟩
      have e2 := s2 b o (s1 b o e)
      have n : b ≠ p := fun z => by
        have := s1 b o e
        rw [z, hp] at this
        cases this
      exact f4 b o n (f3 b o n e2)
    · rintro σ H1 ⟨x1, x2, rfl, s1⟩
      exact q _
end
end Ev

set_option Elab.async false
set_option linter.all false
set_option maxRecDepth 100000
set_option maxHeartbeats 4000000
namespace Ev
open PySem PySem.Spec PyProof.Rows L2

end Ev
namespace EvE
open PySem PySem.Spec PyProof.Rows L2 He Ev EvH
theorem facts_T {P : Program} {w : World} {K : PySem.W.Frag} {h : Heap} {mg : Str → Option Value} (X : K.In h) (G : h.Ns mainGlobals mg) (c : SaysP fa fn pn ex K) : Txt K mg (ga K "Rule") (ga K "Purse") := by
  obtain ⟨xx0, xr0⟩ := ba c.x
  obtain ⟨xx1, xr1⟩ := ba xr0
  obtain ⟨xx2, xr2⟩ := ba xr1
  obtain ⟨xx3, xr3⟩ := ba xr2
  obtain ⟨xx4, xr4⟩ := ba xr3
  obtain ⟨xx5, xr5⟩ := ba xr4
  have xx6 := xr5
  exact {
    g_Rule := He.glo_ok X G (c.d.fact 76 (f := .glo "Rule") rfl),
    cl := He.cls_ok (c.d.fact 77 (f := .cls "Rule") rfl),
    nb := He.noat_ok (c.d.fact 78 (f := .noat "Rule" "_bands") rfl),
    ins := ins_of (He.cls_ok (c.d.fact 77 (f := .cls "Rule") rfl)) xx0,
    rd := read_of xx1,
    ne := of_decide_eq_true xx2,
    mo := (ins_of (He.cls_ok (c.d.fact 77 (f := .cls "Rule") rfl)) xx0).hm,
    g_Purse := He.glo_ok X G (c.d.fact 79 (f := .glo "Purse") rfl),
    clP := He.cls_ok (c.d.fact 80 (f := .cls "Purse") rfl),
    nbP := He.noat_ok (c.d.fact 81 (f := .noat "Purse" "_kinds") rfl),
    insP := ins_of (He.cls_ok (c.d.fact 80 (f := .cls "Purse") rfl)) xx3,
    rdP := read_of xx4,
    neP := of_decide_eq_true xx5,
    moP := (ins_of (He.cls_ok (c.d.fact 80 (f := .cls "Purse") rfl)) xx3).hm,
    b_len := He.free_ok X G (c.d.fact 82 (f := .free "len") rfl),
    b_int := He.free_ok X G (c.d.fact 83 (f := .free "int") rfl),
    b_str := He.free_ok X G (c.d.fact 84 (f := .free "str") rfl),
    b_bool := He.free_ok X G (c.d.fact 85 (f := .free "bool") rfl),
    b_tuple := He.free_ok X G (c.d.fact 86 (f := .free "tuple") rfl),
    b_abs := He.free_ok X G (c.d.fact 87 (f := .free "abs") rfl),
    b_divmod := He.free_ok X G (c.d.fact 88 (f := .free "divmod") rfl),
    b_isinstance := He.free_ok X G (c.d.fact 89 (f := .free "isinstance") rfl),
    b_all := He.free_ok X G (c.d.fact 90 (f := .free "all") rfl),
    b_min := He.free_ok X G (c.d.fact 91 (f := .free "min") rfl),
    b_range := He.free_ok X G (c.d.fact 92 (f := .free "range") rfl),
    b_sorted := He.free_ok X G (c.d.fact 93 (f := .free "sorted") rfl),
    b_sum := He.free_ok X G (c.d.fact 94 (f := .free "sum") rfl),
    b_set := He.free_ok X G (c.d.fact 95 (f := .free "set") rfl),
    b_zip := He.free_ok X G (c.d.fact 96 (f := .free "zip") rfl),
    b_type := He.free_ok X G (c.d.fact 97 (f := .free "type") rfl),
    b_enumerate := He.free_ok X G (c.d.fact 98 (f := .free "enumerate") rfl),
    b_repr := He.free_ok X G (c.d.fact 99 (f := .free "repr") rfl),
    b_max := He.free_ok X G (c.d.fact 100 (f := .free "max") rfl),
    b_list := He.free_ok X G (c.d.fact 101 (f := .free "list") rfl),
    b_dict := He.free_ok X G (c.d.fact 102 (f := .free "dict") rfl),
    c_MOST_BANDS := He.int_ok X G (c.d.fact 103 (f := .int "MOST_BANDS" (8)) rfl),
    c_MOST_STEP := He.int_ok X G (c.d.fact 104 (f := .int "MOST_STEP" (1000)) rfl),
    c_MOST_START := He.int_ok X G (c.d.fact 105 (f := .int "MOST_START" (10 ^ 29)) rfl),
    c_MOST_INCOME := He.int_ok X G (c.d.fact 106 (f := .int "MOST_INCOME" (10 ^ 30)) rfl),
    c_MOST_VALUE := He.int_ok X G (c.d.fact 107 (f := .int "MOST_VALUE" (10 ^ 32)) rfl),
    c_MOST_KINDS := He.int_ok X G (c.d.fact 108 (f := .int "MOST_KINDS" (30)) rfl),
    c_MOST_AMOUNT := He.int_ok X G (c.d.fact 109 (f := .int "MOST_AMOUNT" (10 ^ 36)) rfl),
    c_MOST_COUNT := He.int_ok X G (c.d.fact 110 (f := .int "MOST_COUNT" (10 ^ 36 * 10 ^ 36)) rfl),
    c_MOST_DIGITS := He.int_ok X G (c.d.fact 111 (f := .int "MOST_DIGITS" (80)) rfl) }
theorem facts_d_CHECKS {P : Program} {w : World} {K : PySem.W.Frag} {h : Heap} {mg : Str → Option Value} (X : K.In h) (G : h.Ns mainGlobals mg) (c : SaysP fa fn pn ex K) (kt : ∃ es n, KDict K w (ga K "CHECKS") es n) (base : Heap) : KTab K w mg "CHECKS" chkTab := by
  obtain ⟨xx0, xr0⟩ := ba c.x
  obtain ⟨xx1, xr1⟩ := ba xr0
  obtain ⟨xx2, xr2⟩ := ba xr1
  obtain ⟨xx3, xr3⟩ := ba xr2
  obtain ⟨xx4, xr4⟩ := ba xr3
  obtain ⟨xx5, xr5⟩ := ba xr4
  have xx6 := xr5
  exact ktab_of (He.glo_ok X G (c.d.fact 112 (f := .glo "CHECKS") rfl)) kt xx6 (fun q hq => by
    simp only [chkTab, List.mem_cons, List.not_mem_nil, or_false] at hq
    rcases hq with rfl | rfl | rfl | rfl | rfl
    · exact (He.glo_ok X G (c.d.fact 54 (f := .glo "accepts_more") rfl))
    · exact (He.glo_ok X G (c.d.fact 55 (f := .glo "accepts_not_more") rfl))
    · exact (He.glo_ok X G (c.d.fact 59 (f := .glo "accepts_even") rfl))
    · exact (He.glo_ok X G (c.d.fact 60 (f := .glo "accepts_uneven") rfl))
    · exact (He.glo_ok X G (c.d.fact 64 (f := .glo "accepts_gifts") rfl)))
theorem facts_d_is_integer_integers {P : Program} {w : World} {K : PySem.W.Frag} {h : Heap} {mg : Str → Option Value} (X : K.In h) (G : h.Ns mainGlobals mg) (c : SaysP fa fn pn ex K) (kt : ∃ es n, KDict K w (ga K "CHECKS") es n) (base : Heap) : Def P w K mg base "is_integer_integers" ["value"] 1 (spIsInteger K) := by
  have T := facts_T (P := P) (w := w) X G c
  obtain ⟨fd0, FD0⟩ := c.d.def_ 0 (d := dd0) rfl
  have F0 := fun_of (st := s_is_integer_integers) FD0
  exact ⟨_, _, glo_ok X G (c.d.fact 0 (f := .glo "is_integer_integers") rfl), F0.kp, (F0.binds (ps := ["value"]) fun _ _ _ _ _ _ us hl => match us, hl with | [_], _ => rfl), ok_is_integer F0 T⟩
theorem facts_d_is_within {P : Program} {w : World} {K : PySem.W.Frag} {h : Heap} {mg : Str → Option Value} (X : K.In h) (G : h.Ns mainGlobals mg) (c : SaysP fa fn pn ex K) (kt : ∃ es n, KDict K w (ga K "CHECKS") es n) (base : Heap) : Def P w K mg base "is_within" ["value", "least", "most"] 2 (spWithin K) := by
  have T := facts_T (P := P) (w := w) X G c
  obtain ⟨fd1, FD1⟩ := c.d.def_ 1 (d := dd1) rfl
  have F1 := fun_of (st := s_is_within) FD1
  have d_is_integer_integers := facts_d_is_integer_integers (P := P) (w := w) X G c kt base
  exact ⟨_, _, glo_ok X G (c.d.fact 1 (f := .glo "is_within") rfl), F1.kp, (F1.binds (ps := ["value", "least", "most"]) fun _ _ _ _ _ _ us hl => match us, hl with | [_, _, _], _ => rfl), ok_is_within F1 T d_is_integer_integers⟩
theorem facts_d_is_value {P : Program} {w : World} {K : PySem.W.Frag} {h : Heap} {mg : Str → Option Value} (X : K.In h) (G : h.Ns mainGlobals mg) (c : SaysP fa fn pn ex K) (kt : ∃ es n, KDict K w (ga K "CHECKS") es n) (base : Heap) : Def P w K mg base "is_value" ["value"] 3 (spInt1 0 (10 ^ 32)) := by
  have T := facts_T (P := P) (w := w) X G c
  obtain ⟨fd2, FD2⟩ := c.d.def_ 2 (d := dd2) rfl
  have F2 := fun_of (st := s_is_value) FD2
  have d_is_within := facts_d_is_within (P := P) (w := w) X G c kt base
  exact ⟨_, _, glo_ok X G (c.d.fact 2 (f := .glo "is_value") rfl), F2.kp, (F2.binds (ps := ["value"]) fun _ _ _ _ _ _ us hl => match us, hl with | [_], _ => rfl), ok_is_value F2 T d_is_within⟩
theorem facts_d_is_step {P : Program} {w : World} {K : PySem.W.Frag} {h : Heap} {mg : Str → Option Value} (X : K.In h) (G : h.Ns mainGlobals mg) (c : SaysP fa fn pn ex K) (kt : ∃ es n, KDict K w (ga K "CHECKS") es n) (base : Heap) : Def P w K mg base "is_step" ["step"] 3 (spInt1 (-1000) 1000) := by
  have T := facts_T (P := P) (w := w) X G c
  obtain ⟨fd3, FD3⟩ := c.d.def_ 3 (d := dd3) rfl
  have F3 := fun_of (st := s_is_step) FD3
  have d_is_within := facts_d_is_within (P := P) (w := w) X G c kt base
  exact ⟨_, _, glo_ok X G (c.d.fact 3 (f := .glo "is_step") rfl), F3.kp, (F3.binds (ps := ["step"]) fun _ _ _ _ _ _ us hl => match us, hl with | [_], _ => rfl), ok_is_step F3 T d_is_within⟩
theorem facts_d_last_income {P : Program} {w : World} {K : PySem.W.Frag} {h : Heap} {mg : Str → Option Value} (X : K.In h) (G : h.Ns mainGlobals mg) (c : SaysP fa fn pn ex K) (kt : ∃ es n, KDict K w (ga K "CHECKS") es n) (base : Heap) : Def P w K mg base "last_income" ["bands", "index"] 1 (spLastIncome) := by
  have T := facts_T (P := P) (w := w) X G c
  obtain ⟨fd4, FD4⟩ := c.d.def_ 4 (d := dd4) rfl
  have F4 := fun_of (st := s_last_income) FD4
  exact ⟨_, _, glo_ok X G (c.d.fact 4 (f := .glo "last_income") rfl), F4.kp, (F4.binds (ps := ["bands", "index"]) fun _ _ _ _ _ _ us hl => match us, hl with | [_, _], _ => rfl), ok_last_income F4 T⟩
theorem facts_d_is_band {P : Program} {w : World} {K : PySem.W.Frag} {h : Heap} {mg : Str → Option Value} (X : K.In h) (G : h.Ns mainGlobals mg) (c : SaysP fa fn pn ex K) (kt : ∃ es n, KDict K w (ga K "CHECKS") es n) (base : Heap) : Def P w K mg base "is_band" ["band", "least", "most"] 4 (spIsBand K) := by
  have T := facts_T (P := P) (w := w) X G c
  obtain ⟨fd5, FD5⟩ := c.d.def_ 5 (d := dd5) rfl
  have F5 := fun_of (st := s_is_band) FD5
  have d_is_within := facts_d_is_within (P := P) (w := w) X G c kt base
  have d_is_value := facts_d_is_value (P := P) (w := w) X G c kt base
  have d_is_step := facts_d_is_step (P := P) (w := w) X G c kt base
  exact ⟨_, _, glo_ok X G (c.d.fact 5 (f := .glo "is_band") rfl), F5.kp, (F5.binds (ps := ["band", "least", "most"]) fun _ _ _ _ _ _ us hl => match us, hl with | [_, _, _], _ => rfl), ok_is_band F5 T d_is_within d_is_value d_is_step⟩
theorem facts_d_first_wrong_rules {P : Program} {w : World} {K : PySem.W.Frag} {h : Heap} {mg : Str → Option Value} (X : K.In h) (G : h.Ns mainGlobals mg) (c : SaysP fa fn pn ex K) (kt : ∃ es n, KDict K w (ga K "CHECKS") es n) (base : Heap) : Def P w K mg base "first_wrong_rules" ["bands"] 5 (spNoneOf) := by
  have T := facts_T (P := P) (w := w) X G c
  obtain ⟨fd6, FD6⟩ := c.d.def_ 6 (d := dd6) rfl
  have F6 := fun_of (st := s_first_wrong_rules) FD6
  have d_is_band := facts_d_is_band (P := P) (w := w) X G c kt base
  exact ⟨_, _, glo_ok X G (c.d.fact 6 (f := .glo "first_wrong_rules") rfl), F6.kp, (F6.binds (ps := ["bands"]) fun _ _ _ _ _ _ us hl => match us, hl with | [_], _ => rfl), ok_first_wrong F6 T d_is_band⟩
theorem facts_d_first_below {P : Program} {w : World} {K : PySem.W.Frag} {h : Heap} {mg : Str → Option Value} (X : K.In h) (G : h.Ns mainGlobals mg) (c : SaysP fa fn pn ex K) (kt : ∃ es n, KDict K w (ga K "CHECKS") es n) (base : Heap) : Def P w K mg base "first_below" ["bands"] 2 (spNoneOf) := by
  have T := facts_T (P := P) (w := w) X G c
  obtain ⟨fd7, FD7⟩ := c.d.def_ 7 (d := dd7) rfl
  have F7 := fun_of (st := s_first_below) FD7
  have d_last_income := facts_d_last_income (P := P) (w := w) X G c kt base
  exact ⟨_, _, glo_ok X G (c.d.fact 7 (f := .glo "first_below") rfl), F7.kp, (F7.binds (ps := ["bands"]) fun _ _ _ _ _ _ us hl => match us, hl with | [_], _ => rfl), ok_first_below F7 T d_last_income⟩
theorem facts_d_left_by {P : Program} {w : World} {K : PySem.W.Frag} {h : Heap} {mg : Str → Option Value} (X : K.In h) (G : h.Ns mainGlobals mg) (c : SaysP fa fn pn ex K) (kt : ∃ es n, KDict K w (ga K "CHECKS") es n) (base : Heap) : Def P w K mg base "left_by" ["bands", "income"] 1 (spLeftBy) := by
  have T := facts_T (P := P) (w := w) X G c
  obtain ⟨fd8, FD8⟩ := c.d.def_ 8 (d := dd8) rfl
  have F8 := fun_of (st := s_left_by) FD8
  exact ⟨_, _, glo_ok X G (c.d.fact 8 (f := .glo "left_by") rfl), F8.kp, (F8.binds (ps := ["bands", "income"]) fun _ _ _ _ _ _ us hl => match us, hl with | [_, _], _ => rfl), ok_left_by F8 T⟩
theorem facts_d_lines_of_rules {P : Program} {w : World} {K : PySem.W.Frag} {h : Heap} {mg : Str → Option Value} (X : K.In h) (G : h.Ns mainGlobals mg) (c : SaysP fa fn pn ex K) (kt : ∃ es n, KDict K w (ga K "CHECKS") es n) (base : Heap) : Def P w K mg base "lines_of_rules" ["bands"] 1 (spLinesOf) := by
  have T := facts_T (P := P) (w := w) X G c
  obtain ⟨fd9, FD9⟩ := c.d.def_ 9 (d := dd9) rfl
  have F9 := fun_of (st := s_lines_of_rules) FD9
  exact ⟨_, _, glo_ok X G (c.d.fact 9 (f := .glo "lines_of_rules") rfl), F9.kp, (F9.binds (ps := ["bands"]) fun _ _ _ _ _ _ us hl => match us, hl with | [_], _ => rfl), ok_lines_of F9 T⟩
theorem facts_d_read_integer {P : Program} {w : World} {K : PySem.W.Frag} {h : Heap} {mg : Str → Option Value} (X : K.In h) (G : h.Ns mainGlobals mg) (c : SaysP fa fn pn ex K) (kt : ∃ es n, KDict K w (ga K "CHECKS") es n) (base : Heap) : Def P w K mg base "read_integer" ["word"] 1 (spReadIntK) := by
  have T := facts_T (P := P) (w := w) X G c
  obtain ⟨fd10, FD10⟩ := c.d.def_ 10 (d := dd10) rfl
  have F10 := fun_of (st := s_read_integer) FD10
  exact ⟨_, _, glo_ok X G (c.d.fact 10 (f := .glo "read_integer") rfl), F10.kp, (F10.binds (ps := ["word"]) fun _ _ _ _ _ _ us hl => match us, hl with | [_], _ => rfl), ok_read_integerK F10 T⟩
theorem facts_d_band_of {P : Program} {w : World} {K : PySem.W.Frag} {h : Heap} {mg : Str → Option Value} (X : K.In h) (G : h.Ns mainGlobals mg) (c : SaysP fa fn pn ex K) (kt : ∃ es n, KDict K w (ga K "CHECKS") es n) (base : Heap) : Def P w K mg base "band_of" ["line"] 2 (spBandOf) := by
  have T := facts_T (P := P) (w := w) X G c
  obtain ⟨fd11, FD11⟩ := c.d.def_ 11 (d := dd11) rfl
  have F11 := fun_of (st := s_band_of) FD11
  have d_read_integer := facts_d_read_integer (P := P) (w := w) X G c kt base
  exact ⟨_, _, glo_ok X G (c.d.fact 11 (f := .glo "band_of") rfl), F11.kp, (F11.binds (ps := ["line"]) fun _ _ _ _ _ _ us hl => match us, hl with | [_], _ => rfl), ok_band_ofK F11 T d_read_integer⟩
theorem facts_d_bands_with {P : Program} {w : World} {K : PySem.W.Frag} {h : Heap} {mg : Str → Option Value} (X : K.In h) (G : h.Ns mainGlobals mg) (c : SaysP fa fn pn ex K) (kt : ∃ es n, KDict K w (ga K "CHECKS") es n) (base : Heap) : Def P w K mg base "bands_with" ["text"] 6 (spBandsWith) := by
  have T := facts_T (P := P) (w := w) X G c
  obtain ⟨fd12, FD12⟩ := c.d.def_ 12 (d := dd12) rfl
  have F12 := fun_of (st := s_bands_with) FD12
  have d_first_wrong_rules := facts_d_first_wrong_rules (P := P) (w := w) X G c kt base
  have d_first_below := facts_d_first_below (P := P) (w := w) X G c kt base
  have d_lines_of_rules := facts_d_lines_of_rules (P := P) (w := w) X G c kt base
  have d_band_of := facts_d_band_of (P := P) (w := w) X G c kt base
  exact ⟨_, _, glo_ok X G (c.d.fact 12 (f := .glo "bands_with") rfl), F12.kp, (F12.binds (ps := ["text"]) fun _ _ _ _ _ _ us hl => match us, hl with | [_], _ => rfl), ok_bands_with F12 T d_first_wrong_rules d_first_below d_lines_of_rules d_band_of⟩
theorem facts_d_Rule_init {P : Program} {w : World} {K : PySem.W.Frag} {h : Heap} {mg : Str → Option Value} (X : K.In h) (G : h.Ns mainGlobals mg) (c : SaysP fa fn pn ex K) (kt : ∃ es n, KDict K w (ga K "CHECKS") es n) (base : Heap) : IDef P w K mg base (ga K "Rule") ["self", "bands"] 6 (spInit (ga K "Rule")) := by
  have T := facts_T (P := P) (w := w) X G c
  obtain ⟨fd13, FD13⟩ := c.d.def_ 13 (d := dd13) rfl
  have F13 := fun_of (st := s_Rule___init__) FD13
  have d_first_wrong_rules := facts_d_first_wrong_rules (P := P) (w := w) X G c kt base
  have d_first_below := facts_d_first_below (P := P) (w := w) X G c kt base
  exact ⟨_, _, mkr_ok (c.d.fact 13 (f := .mkr "Rule") rfl), (F13.binds (ps := ["self", "bands"]) fun _ _ _ _ _ _ us hl => match us, hl with | [_, _], _ => rfl), ok_Rule_init F13 T d_first_wrong_rules d_first_below⟩
theorem facts_d_Rule_bands {P : Program} {w : World} {K : PySem.W.Frag} {h : Heap} {mg : Str → Option Value} (X : K.In h) (G : h.Ns mainGlobals mg) (c : SaysP fa fn pn ex K) (kt : ∃ es n, KDict K w (ga K "CHECKS") es n) (base : Heap) : PDef P w K mg base (ga K "Rule") "bands" 1 (getSp (ga K "Rule") "_bands") := by
  have T := facts_T (P := P) (w := w) X G c
  obtain ⟨po0, pe0⟩ := c.p pp0 (by simp [pn])
  obtain ⟨oc0, od0, kV0, doc0, pm0, an0, cdv0, ct0, osl0, lk0, cd0, kp0⟩ := PropD.fn pe0 po0
  have FP0 : Fun K "bands" "Rule.bands" s_Rule_bands _ _ := fun_mk lk0 cd0 kp0
  exact ⟨_, _, _, PropD.prop rfl po0, (FP0.binds (ps := ["self"]) fun _ _ _ _ _ _ us hl => match us, hl with | [_], _ => rfl), ok_Rule_bands FP0 T⟩
theorem facts_d_Rule___str__ {P : Program} {w : World} {K : PySem.W.Frag} {h : Heap} {mg : Str → Option Value} (X : K.In h) (G : h.Ns mainGlobals mg) (c : SaysP fa fn pn ex K) (kt : ∃ es n, KDict K w (ga K "CHECKS") es n) (base : Heap) : MDef P w K mg base (ga K "Rule") "__str__" ["self"] 2 (spStr (ga K "Rule")) := by
  have T := facts_T (P := P) (w := w) X G c
  obtain ⟨fd14, FD14⟩ := c.d.def_ 14 (d := dd14) rfl
  have F14 := fun_of (st := s_Rule___str__) FD14
  have d_lines_of_rules := facts_d_lines_of_rules (P := P) (w := w) X G c kt base
  exact ⟨_, _, meth_ok (c.d.fact 14 (f := .meth "Rule" "__str__") rfl), (F14.binds (ps := ["self"]) fun _ _ _ _ _ _ us hl => match us, hl with | [_], _ => rfl), ok_Rule_str F14 T d_lines_of_rules⟩
theorem facts_d_is_kind {P : Program} {w : World} {K : PySem.W.Frag} {h : Heap} {mg : Str → Option Value} (X : K.In h) (G : h.Ns mainGlobals mg) (c : SaysP fa fn pn ex K) (kt : ∃ es n, KDict K w (ga K "CHECKS") es n) (base : Heap) : Def P w K mg base "is_kind" ["kind", "least"] 3 (spIsKind K) := by
  have T := facts_T (P := P) (w := w) X G c
  obtain ⟨fd15, FD15⟩ := c.d.def_ 15 (d := dd15) rfl
  have F15 := fun_of (st := s_is_kind) FD15
  have d_is_within := facts_d_is_within (P := P) (w := w) X G c kt base
  exact ⟨_, _, glo_ok X G (c.d.fact 15 (f := .glo "is_kind") rfl), F15.kp, (F15.binds (ps := ["kind", "least"]) fun _ _ _ _ _ _ us hl => match us, hl with | [_, _], _ => rfl), ok_is_kind F15 T d_is_within⟩
theorem facts_d_first_wrong_purses {P : Program} {w : World} {K : PySem.W.Frag} {h : Heap} {mg : Str → Option Value} (X : K.In h) (G : h.Ns mainGlobals mg) (c : SaysP fa fn pn ex K) (kt : ∃ es n, KDict K w (ga K "CHECKS") es n) (base : Heap) : Def P w K mg base "first_wrong_purses" ["kinds"] 4 (spNoneK) := by
  have T := facts_T (P := P) (w := w) X G c
  obtain ⟨fd16, FD16⟩ := c.d.def_ 16 (d := dd16) rfl
  have F16 := fun_of (st := s_first_wrong_purses) FD16
  have d_is_kind := facts_d_is_kind (P := P) (w := w) X G c kt base
  exact ⟨_, _, glo_ok X G (c.d.fact 16 (f := .glo "first_wrong_purses") rfl), F16.kp, (F16.binds (ps := ["kinds"]) fun _ _ _ _ _ _ us hl => match us, hl with | [_], _ => rfl), ok_first_wrongK F16 T d_is_kind⟩
theorem facts_d_kind_of {P : Program} {w : World} {K : PySem.W.Frag} {h : Heap} {mg : Str → Option Value} (X : K.In h) (G : h.Ns mainGlobals mg) (c : SaysP fa fn pn ex K) (kt : ∃ es n, KDict K w (ga K "CHECKS") es n) (base : Heap) : Def P w K mg base "kind_of" ["line"] 2 (spKindOf) := by
  have T := facts_T (P := P) (w := w) X G c
  obtain ⟨fd17, FD17⟩ := c.d.def_ 17 (d := dd17) rfl
  have F17 := fun_of (st := s_kind_of) FD17
  have d_read_integer := facts_d_read_integer (P := P) (w := w) X G c kt base
  exact ⟨_, _, glo_ok X G (c.d.fact 17 (f := .glo "kind_of") rfl), F17.kp, (F17.binds (ps := ["line"]) fun _ _ _ _ _ _ us hl => match us, hl with | [_], _ => rfl), ok_kind_of F17 T d_read_integer⟩
theorem facts_d_lines_of_purses {P : Program} {w : World} {K : PySem.W.Frag} {h : Heap} {mg : Str → Option Value} (X : K.In h) (G : h.Ns mainGlobals mg) (c : SaysP fa fn pn ex K) (kt : ∃ es n, KDict K w (ga K "CHECKS") es n) (base : Heap) : Def P w K mg base "lines_of_purses" ["kinds"] 1 (spLinesOfK) := by
  have T := facts_T (P := P) (w := w) X G c
  obtain ⟨fd18, FD18⟩ := c.d.def_ 18 (d := dd18) rfl
  have F18 := fun_of (st := s_lines_of_purses) FD18
  exact ⟨_, _, glo_ok X G (c.d.fact 18 (f := .glo "lines_of_purses") rfl), F18.kp, (F18.binds (ps := ["kinds"]) fun _ _ _ _ _ _ us hl => match us, hl with | [_], _ => rfl), ok_lines_ofK F18 T⟩
theorem facts_d_kinds_with {P : Program} {w : World} {K : PySem.W.Frag} {h : Heap} {mg : Str → Option Value} (X : K.In h) (G : h.Ns mainGlobals mg) (c : SaysP fa fn pn ex K) (kt : ∃ es n, KDict K w (ga K "CHECKS") es n) (base : Heap) : Def P w K mg base "kinds_with" ["text"] 5 (spKindsWith) := by
  have T := facts_T (P := P) (w := w) X G c
  obtain ⟨fd19, FD19⟩ := c.d.def_ 19 (d := dd19) rfl
  have F19 := fun_of (st := s_kinds_with) FD19
  have d_first_wrong_purses := facts_d_first_wrong_purses (P := P) (w := w) X G c kt base
  have d_lines_of_purses := facts_d_lines_of_purses (P := P) (w := w) X G c kt base
  have d_kind_of := facts_d_kind_of (P := P) (w := w) X G c kt base
  exact ⟨_, _, glo_ok X G (c.d.fact 19 (f := .glo "kinds_with") rfl), F19.kp, (F19.binds (ps := ["text"]) fun _ _ _ _ _ _ us hl => match us, hl with | [_], _ => rfl), ok_kinds_with F19 T d_first_wrong_purses d_lines_of_purses d_kind_of⟩
theorem facts_d_Purse_init {P : Program} {w : World} {K : PySem.W.Frag} {h : Heap} {mg : Str → Option Value} (X : K.In h) (G : h.Ns mainGlobals mg) (c : SaysP fa fn pn ex K) (kt : ∃ es n, KDict K w (ga K "CHECKS") es n) (base : Heap) : IDef P w K mg base (ga K "Purse") ["self", "kinds"] 5 (spInitK (ga K "Purse")) := by
  have T := facts_T (P := P) (w := w) X G c
  obtain ⟨fd20, FD20⟩ := c.d.def_ 20 (d := dd20) rfl
  have F20 := fun_of (st := s_Purse___init__) FD20
  have d_first_wrong_purses := facts_d_first_wrong_purses (P := P) (w := w) X G c kt base
  exact ⟨_, _, mkr_ok (c.d.fact 20 (f := .mkr "Purse") rfl), (F20.binds (ps := ["self", "kinds"]) fun _ _ _ _ _ _ us hl => match us, hl with | [_, _], _ => rfl), ok_Purse_init F20 T d_first_wrong_purses⟩
theorem facts_d_Purse_kinds {P : Program} {w : World} {K : PySem.W.Frag} {h : Heap} {mg : Str → Option Value} (X : K.In h) (G : h.Ns mainGlobals mg) (c : SaysP fa fn pn ex K) (kt : ∃ es n, KDict K w (ga K "CHECKS") es n) (base : Heap) : PDef P w K mg base (ga K "Purse") "kinds" 1 (getSp (ga K "Purse") "_kinds") := by
  have T := facts_T (P := P) (w := w) X G c
  obtain ⟨po1, pe1⟩ := c.p pp1 (by simp [pn])
  obtain ⟨oc1, od1, kV1, doc1, pm1, an1, cdv1, ct1, osl1, lk1, cd1, kp1⟩ := PropD.fn pe1 po1
  have FP1 : Fun K "kinds" "Purse.kinds" s_Purse_kinds _ _ := fun_mk lk1 cd1 kp1
  exact ⟨_, _, _, PropD.prop rfl po1, (FP1.binds (ps := ["self"]) fun _ _ _ _ _ _ us hl => match us, hl with | [_], _ => rfl), ok_Purse_kinds FP1 T⟩
theorem facts_d_Purse___str__ {P : Program} {w : World} {K : PySem.W.Frag} {h : Heap} {mg : Str → Option Value} (X : K.In h) (G : h.Ns mainGlobals mg) (c : SaysP fa fn pn ex K) (kt : ∃ es n, KDict K w (ga K "CHECKS") es n) (base : Heap) : MDef P w K mg base (ga K "Purse") "__str__" ["self"] 2 (spStrK (ga K "Purse")) := by
  have T := facts_T (P := P) (w := w) X G c
  obtain ⟨fd21, FD21⟩ := c.d.def_ 21 (d := dd21) rfl
  have F21 := fun_of (st := s_Purse___str__) FD21
  have d_lines_of_purses := facts_d_lines_of_purses (P := P) (w := w) X G c kt base
  exact ⟨_, _, meth_ok (c.d.fact 21 (f := .meth "Purse" "__str__") rfl), (F21.binds (ps := ["self"]) fun _ _ _ _ _ _ us hl => match us, hl with | [_], _ => rfl), ok_Purse_str F21 T d_lines_of_purses⟩
theorem facts_d_plain {P : Program} {w : World} {K : PySem.W.Frag} {h : Heap} {mg : Str → Option Value} (X : K.In h) (G : h.Ns mainGlobals mg) (c : SaysP fa fn pn ex K) (kt : ∃ es n, KDict K w (ga K "CHECKS") es n) (base : Heap) : Def P w K mg base "plain" [] 8 (spPlain (ga K "Rule")) := by
  have T := facts_T (P := P) (w := w) X G c
  obtain ⟨fd22, FD22⟩ := c.d.def_ 22 (d := dd22) rfl
  have F22 := fun_of (st := s_plain) FD22
  have d_Rule_init := facts_d_Rule_init (P := P) (w := w) X G c kt base
  exact ⟨_, _, glo_ok X G (c.d.fact 22 (f := .glo "plain") rfl), F22.kp, (F22.binds (ps := []) fun _ _ _ _ _ _ us hl => match us, hl with | [], _ => rfl), ok_plain F22 T d_Rule_init⟩
theorem facts_d_bands_of {P : Program} {w : World} {K : PySem.W.Frag} {h : Heap} {mg : Str → Option Value} (X : K.In h) (G : h.Ns mainGlobals mg) (c : SaysP fa fn pn ex K) (kt : ∃ es n, KDict K w (ga K "CHECKS") es n) (base : Heap) : Def P w K mg base "bands_of" ["rule"] 3 (spBandsOf (ga K "Rule")) := by
  have T := facts_T (P := P) (w := w) X G c
  obtain ⟨fd23, FD23⟩ := c.d.def_ 23 (d := dd23) rfl
  have F23 := fun_of (st := s_bands_of) FD23
  have d_Rule_bands := facts_d_Rule_bands (P := P) (w := w) X G c kt base
  exact ⟨_, _, glo_ok X G (c.d.fact 23 (f := .glo "bands_of") rfl), F23.kp, (F23.binds (ps := ["rule"]) fun _ _ _ _ _ _ us hl => match us, hl with | [_], _ => rfl), ok_bands_of F23 T d_Rule_bands⟩
theorem facts_d_first_turn {P : Program} {w : World} {K : PySem.W.Frag} {h : Heap} {mg : Str → Option Value} (X : K.In h) (G : h.Ns mainGlobals mg) (c : SaysP fa fn pn ex K) (kt : ∃ es n, KDict K w (ga K "CHECKS") es n) (base : Heap) : Def P w K mg base "first_turn" ["bands"] 2 (spFirstTurn) := by
  have T := facts_T (P := P) (w := w) X G c
  obtain ⟨fd24, FD24⟩ := c.d.def_ 24 (d := dd24) rfl
  have F24 := fun_of (st := s_first_turn) FD24
  have d_last_income := facts_d_last_income (P := P) (w := w) X G c kt base
  exact ⟨_, _, glo_ok X G (c.d.fact 24 (f := .glo "first_turn") rfl), F24.kp, (F24.binds (ps := ["bands"]) fun _ _ _ _ _ _ us hl => match us, hl with | [_], _ => rfl), ok_first_turn F24 T d_last_income⟩
theorem facts_d_left_by_both {P : Program} {w : World} {K : PySem.W.Frag} {h : Heap} {mg : Str → Option Value} (X : K.In h) (G : h.Ns mainGlobals mg) (c : SaysP fa fn pn ex K) (kt : ∃ es n, KDict K w (ga K "CHECKS") es n) (base : Heap) : Def P w K mg base "left_by_both" ["bands", "others", "income"] 2 (spBoth) := by
  have T := facts_T (P := P) (w := w) X G c
  obtain ⟨fd25, FD25⟩ := c.d.def_ 25 (d := dd25) rfl
  have F25 := fun_of (st := s_left_by_both) FD25
  have d_left_by := facts_d_left_by (P := P) (w := w) X G c kt base
  exact ⟨_, _, glo_ok X G (c.d.fact 25 (f := .glo "left_by_both") rfl), F25.kp, (F25.binds (ps := ["bands", "others", "income"]) fun _ _ _ _ _ _ us hl => match us, hl with | [_, _, _], _ => rfl), ok_left_by_both F25 T d_left_by⟩
theorem facts_d_breaks {P : Program} {w : World} {K : PySem.W.Frag} {h : Heap} {mg : Str → Option Value} (X : K.In h) (G : h.Ns mainGlobals mg) (c : SaysP fa fn pn ex K) (kt : ∃ es n, KDict K w (ga K "CHECKS") es n) (base : Heap) : Def P w K mg base "breaks" ["left"] 1 (spBreaks K) := by
  have T := facts_T (P := P) (w := w) X G c
  obtain ⟨fd26, FD26⟩ := c.d.def_ 26 (d := dd26) rfl
  have F26 := fun_of (st := s_breaks) FD26
  exact ⟨_, _, glo_ok X G (c.d.fact 26 (f := .glo "breaks") rfl), F26.kp, (F26.binds (ps := ["left"]) fun _ _ _ _ _ _ us hl => match us, hl with | [_], _ => rfl), ok_breaks F26 T⟩
theorem facts_d_neighbours {P : Program} {w : World} {K : PySem.W.Frag} {h : Heap} {mg : Str → Option Value} (X : K.In h) (G : h.Ns mainGlobals mg) (c : SaysP fa fn pn ex K) (kt : ∃ es n, KDict K w (ga K "CHECKS") es n) (base : Heap) : Def P w K mg base "neighbours" ["bands", "others"] 3 (spNeigh) := by
  have T := facts_T (P := P) (w := w) X G c
  obtain ⟨fd27, FD27⟩ := c.d.def_ 27 (d := dd27) rfl
  have F27 := fun_of (st := s_neighbours) FD27
  have d_left_by_both := facts_d_left_by_both (P := P) (w := w) X G c kt base
  exact ⟨_, _, glo_ok X G (c.d.fact 27 (f := .glo "neighbours") rfl), F27.kp, (F27.binds (ps := ["bands", "others"]) fun _ _ _ _ _ _ us hl => match us, hl with | [_, _], _ => rfl), ok_neighbours F27 T d_left_by_both⟩
theorem facts_d_other_bands {P : Program} {w : World} {K : PySem.W.Frag} {h : Heap} {mg : Str → Option Value} (X : K.In h) (G : h.Ns mainGlobals mg) (c : SaysP fa fn pn ex K) (kt : ∃ es n, KDict K w (ga K "CHECKS") es n) (base : Heap) : Def P w K mg base "other_bands" ["other"] 9 (spOrdered (ga K "Rule")) := by
  have T := facts_T (P := P) (w := w) X G c
  obtain ⟨fd28, FD28⟩ := c.d.def_ 28 (d := dd28) rfl
  have F28 := fun_of (st := s_other_bands) FD28
  have d_plain := facts_d_plain (P := P) (w := w) X G c kt base
  have d_Rule_bands := facts_d_Rule_bands (P := P) (w := w) X G c kt base
  have d_bands_of := facts_d_bands_of (P := P) (w := w) X G c kt base
  exact ⟨_, _, glo_ok X G (c.d.fact 28 (f := .glo "other_bands") rfl), F28.kp, (F28.binds (ps := ["other"]) fun _ _ _ _ _ _ us hl => match us, hl with | [_], _ => rfl), ok_other F28 T d_plain d_Rule_bands d_bands_of⟩
theorem facts_d_ordered_bands {P : Program} {w : World} {K : PySem.W.Frag} {h : Heap} {mg : Str → Option Value} (X : K.In h) (G : h.Ns mainGlobals mg) (c : SaysP fa fn pn ex K) (kt : ∃ es n, KDict K w (ga K "CHECKS") es n) (base : Heap) : Def P w K mg base "ordered_bands" ["other"] 10 (spOrdered (ga K "Rule")) := by
  have T := facts_T (P := P) (w := w) X G c
  obtain ⟨fd29, FD29⟩ := c.d.def_ 29 (d := dd29) rfl
  have F29 := fun_of (st := s_ordered_bands) FD29
  have d_other_bands := facts_d_other_bands (P := P) (w := w) X G c kt base
  have d_first_turn := facts_d_first_turn (P := P) (w := w) X G c kt base
  exact ⟨_, _, glo_ok X G (c.d.fact 29 (f := .glo "ordered_bands") rfl), F29.kp, (F29.binds (ps := ["other"]) fun _ _ _ _ _ _ us hl => match us, hl with | [_], _ => rfl), ok_ordered F29 T d_other_bands d_first_turn⟩
theorem facts_d_compared {P : Program} {w : World} {K : PySem.W.Frag} {h : Heap} {mg : Str → Option Value} (X : K.In h) (G : h.Ns mainGlobals mg) (c : SaysP fa fn pn ex K) (kt : ∃ es n, KDict K w (ga K "CHECKS") es n) (base : Heap) : Def P w K mg base "compared" ["one", "other"] 11 (spCompared (ga K "Rule")) := by
  have T := facts_T (P := P) (w := w) X G c
  obtain ⟨fd30, FD30⟩ := c.d.def_ 30 (d := dd30) rfl
  have F30 := fun_of (st := s_compared) FD30
  have d_bands_of := facts_d_bands_of (P := P) (w := w) X G c kt base
  have d_neighbours := facts_d_neighbours (P := P) (w := w) X G c kt base
  have d_ordered_bands := facts_d_ordered_bands (P := P) (w := w) X G c kt base
  exact ⟨_, _, glo_ok X G (c.d.fact 30 (f := .glo "compared") rfl), F30.kp, (F30.binds (ps := ["one", "other"]) fun _ _ _ _ _ _ us hl => match us, hl with | [_, _], _ => rfl), ok_compared F30 T d_bands_of d_neighbours d_ordered_bands⟩
theorem facts_d_first_broken {P : Program} {w : World} {K : PySem.W.Frag} {h : Heap} {mg : Str → Option Value} (X : K.In h) (G : h.Ns mainGlobals mg) (c : SaysP fa fn pn ex K) (kt : ∃ es n, KDict K w (ga K "CHECKS") es n) (base : Heap) : Def P w K mg base "first_broken" ["pairs"] 2 (spFirstBroken) := by
  have T := facts_T (P := P) (w := w) X G c
  obtain ⟨fd31, FD31⟩ := c.d.def_ 31 (d := dd31) rfl
  have F31 := fun_of (st := s_first_broken) FD31
  have d_breaks := facts_d_breaks (P := P) (w := w) X G c kt base
  exact ⟨_, _, glo_ok X G (c.d.fact 31 (f := .glo "first_broken") rfl), F31.kp, (F31.binds (ps := ["pairs"]) fun _ _ _ _ _ _ us hl => match us, hl with | [_], _ => rfl), ok_first_broken F31 T d_breaks⟩
theorem facts_d_many_above {P : Program} {w : World} {K : PySem.W.Frag} {h : Heap} {mg : Str → Option Value} (X : K.In h) (G : h.Ns mainGlobals mg) (c : SaysP fa fn pn ex K) (kt : ∃ es n, KDict K w (ga K "CHECKS") es n) (base : Heap) : Def P w K mg base "many_above" ["left"] 1 (spMany K) := by
  have T := facts_T (P := P) (w := w) X G c
  obtain ⟨fd32, FD32⟩ := c.d.def_ 32 (d := dd32) rfl
  have F32 := fun_of (st := s_many_above) FD32
  exact ⟨_, _, glo_ok X G (c.d.fact 32 (f := .glo "many_above") rfl), F32.kp, (F32.binds (ps := ["left"]) fun _ _ _ _ _ _ us hl => match us, hl with | [_], _ => rfl), ok_many_above F32 T⟩
theorem facts_d_contrary {P : Program} {w : World} {K : PySem.W.Frag} {h : Heap} {mg : Str → Option Value} (X : K.In h) (G : h.Ns mainGlobals mg) (c : SaysP fa fn pn ex K) (kt : ∃ es n, KDict K w (ga K "CHECKS") es n) (base : Heap) : Def P w K mg base "contrary" ["one", "other"] 12 (spContrary (ga K "Rule") (ga K "Purse")) := by
  have T := facts_T (P := P) (w := w) X G c
  obtain ⟨fd33, FD33⟩ := c.d.def_ 33 (d := dd33) rfl
  have F33 : FunD K "contrary" "contrary" (defArgs s_contrary) (defBody s_contrary) (defScope s_contrary) [.non] [] _ _ := FD33
  have d_compared := facts_d_compared (P := P) (w := w) X G c kt base
  have d_first_broken := facts_d_first_broken (P := P) (w := w) X G c kt base
  have d_Purse_init := facts_d_Purse_init (P := P) (w := w) X G c kt base
  have d_many_above := facts_d_many_above (P := P) (w := w) X G c kt base
  exact ⟨_, _, glo_ok X G (c.d.fact 33 (f := .glo "contrary") rfl), F33.kp, (FunD.bindsAll (ps := ["one", "other"]) F33 (by simp) fun _ _ _ _ _ _ _ us its h1 h2 => match us, its, h1, h2 with | [_, _], [_], _, _ => ⟨_, rfl, rfl⟩), ok_contrary F33 T d_compared d_first_broken d_Purse_init d_many_above⟩
theorem facts_d_certify_evening {P : Program} {w : World} {K : PySem.W.Frag} {h : Heap} {mg : Str → Option Value} (X : K.In h) (G : h.Ns mainGlobals mg) (c : SaysP fa fn pn ex K) (kt : ∃ es n, KDict K w (ga K "CHECKS") es n) (base : Heap) : Def P w K mg base "certify_evening" ["one", "other"] 13 (spCertE (ga K "Rule")) := by
  have T := facts_T (P := P) (w := w) X G c
  obtain ⟨fd34, FD34⟩ := c.d.def_ 34 (d := dd34) rfl
  have F34 : FunD K "certify_evening" "certify_evening" (defArgs s_certify_evening) (defBody s_certify_evening) (defScope s_certify_evening) [.non] [] _ _ := FD34
  have d_contrary := facts_d_contrary (P := P) (w := w) X G c kt base
  have d_Rule___str__ := facts_d_Rule___str__ (P := P) (w := w) X G c kt base
  have d_Purse___str__ := facts_d_Purse___str__ (P := P) (w := w) X G c kt base
  have d_plain := facts_d_plain (P := P) (w := w) X G c kt base
  exact ⟨_, _, glo_ok X G (c.d.fact 34 (f := .glo "certify_evening") rfl), F34.kp, (FunD.bindsAll (ps := ["one", "other"]) F34 (by simp) fun _ _ _ _ _ _ _ us its h1 h2 => match us, its, h1, h2 with | [_, _], [_], _, _ => ⟨_, rfl, rfl⟩), ok_certify_evening F34 T d_contrary d_Rule___str__ d_Purse___str__ d_plain⟩
theorem facts_d_kinds_of {P : Program} {w : World} {K : PySem.W.Frag} {h : Heap} {mg : Str → Option Value} (X : K.In h) (G : h.Ns mainGlobals mg) (c : SaysP fa fn pn ex K) (kt : ∃ es n, KDict K w (ga K "CHECKS") es n) (base : Heap) : Def P w K mg base "kinds_of" ["purse"] 3 (spKindsOf (ga K "Purse")) := by
  have T := facts_T (P := P) (w := w) X G c
  obtain ⟨fd35, FD35⟩ := c.d.def_ 35 (d := dd35) rfl
  have F35 := fun_of (st := s_kinds_of) FD35
  have d_Purse_kinds := facts_d_Purse_kinds (P := P) (w := w) X G c kt base
  exact ⟨_, _, glo_ok X G (c.d.fact 35 (f := .glo "kinds_of") rfl), F35.kp, (F35.binds (ps := ["purse"]) fun _ _ _ _ _ _ us hl => match us, hl with | [_], _ => rfl), ok_kinds_of F35 T d_Purse_kinds⟩
theorem facts_d_kinds_behind {P : Program} {w : World} {K : PySem.W.Frag} {h : Heap} {mg : Str → Option Value} (X : K.In h) (G : h.Ns mainGlobals mg) (c : SaysP fa fn pn ex K) (kt : ∃ es n, KDict K w (ga K "CHECKS") es n) (base : Heap) : Def P w K mg base "kinds_behind" ["bands", "incomes"] 2 (spKindsBehindR) := by
  have T := facts_T (P := P) (w := w) X G c
  obtain ⟨fd36, FD36⟩ := c.d.def_ 36 (d := dd36) rfl
  have F36 := fun_of (st := s_kinds_behind) FD36
  have d_left_by := facts_d_left_by (P := P) (w := w) X G c kt base
  exact ⟨_, _, glo_ok X G (c.d.fact 36 (f := .glo "kinds_behind") rfl), F36.kp, (F36.binds (ps := ["bands", "incomes"]) fun _ _ _ _ _ _ us hl => match us, hl with | [_, _], _ => rfl), ok_kinds_behindR F36 T d_left_by⟩
theorem facts_d_ends_of {P : Program} {w : World} {K : PySem.W.Frag} {h : Heap} {mg : Str → Option Value} (X : K.In h) (G : h.Ns mainGlobals mg) (c : SaysP fa fn pn ex K) (kt : ∃ es n, KDict K w (ga K "CHECKS") es n) (base : Heap) : Def P w K mg base "ends_of" ["kinds"] 1 (spEndsOf) := by
  have T := facts_T (P := P) (w := w) X G c
  obtain ⟨fd37, FD37⟩ := c.d.def_ 37 (d := dd37) rfl
  have F37 := fun_of (st := s_ends_of) FD37
  exact ⟨_, _, glo_ok X G (c.d.fact 37 (f := .glo "ends_of") rfl), F37.kp, (F37.binds (ps := ["kinds"]) fun _ _ _ _ _ _ us hl => match us, hl with | [_], _ => rfl), ok_ends_of F37 T⟩
theorem facts_d_total_of {P : Program} {w : World} {K : PySem.W.Frag} {h : Heap} {mg : Str → Option Value} (X : K.In h) (G : h.Ns mainGlobals mg) (c : SaysP fa fn pn ex K) (kt : ∃ es n, KDict K w (ga K "CHECKS") es n) (base : Heap) : Def P w K mg base "total_of" ["kinds"] 1 (spTotalOf) := by
  have T := facts_T (P := P) (w := w) X G c
  obtain ⟨fd38, FD38⟩ := c.d.def_ 38 (d := dd38) rfl
  have F38 := fun_of (st := s_total_of) FD38
  exact ⟨_, _, glo_ok X G (c.d.fact 38 (f := .glo "total_of") rfl), F38.kp, (F38.binds (ps := ["kinds"]) fun _ _ _ _ _ _ us hl => match us, hl with | [_], _ => rfl), ok_total_of F38 T⟩
theorem facts_d_lowest_share {P : Program} {w : World} {K : PySem.W.Frag} {h : Heap} {mg : Str → Option Value} (X : K.In h) (G : h.Ns mainGlobals mg) (c : SaysP fa fn pn ex K) (kt : ∃ es n, KDict K w (ga K "CHECKS") es n) (base : Heap) : Def P w K mg base "lowest_share" ["kinds", "part", "whole"] 2 (spShare) := by
  have T := facts_T (P := P) (w := w) X G c
  obtain ⟨fd39, FD39⟩ := c.d.def_ 39 (d := dd39) rfl
  have F39 := fun_of (st := s_lowest_share) FD39
  have d_ends_of := facts_d_ends_of (P := P) (w := w) X G c kt base
  have d_total_of := facts_d_total_of (P := P) (w := w) X G c kt base
  exact ⟨_, _, glo_ok X G (c.d.fact 39 (f := .glo "lowest_share") rfl), F39.kp, (F39.binds (ps := ["kinds", "part", "whole"]) fun _ _ _ _ _ _ us hl => match us, hl with | [_, _, _], _ => rfl), ok_lowest_share F39 T d_ends_of d_total_of⟩
theorem facts_d_first_crossing {P : Program} {w : World} {K : PySem.W.Frag} {h : Heap} {mg : Str → Option Value} (X : K.In h) (G : h.Ns mainGlobals mg) (c : SaysP fa fn pn ex K) (kt : ∃ es n, KDict K w (ga K "CHECKS") es n) (base : Heap) : Def P w K mg base "first_crossing" ["kinds", "others"] 3 (spFirstX) := by
  have T := facts_T (P := P) (w := w) X G c
  obtain ⟨fd40, FD40⟩ := c.d.def_ 40 (d := dd40) rfl
  have F40 := fun_of (st := s_first_crossing) FD40
  have d_ends_of := facts_d_ends_of (P := P) (w := w) X G c kt base
  have d_lowest_share := facts_d_lowest_share (P := P) (w := w) X G c kt base
  exact ⟨_, _, glo_ok X G (c.d.fact 40 (f := .glo "first_crossing") rfl), F40.kp, (F40.binds (ps := ["kinds", "others"]) fun _ _ _ _ _ _ us hl => match us, hl with | [_, _], _ => rfl), ok_first_crossing F40 T d_ends_of d_lowest_share⟩
theorem facts_d_amount_at {P : Program} {w : World} {K : PySem.W.Frag} {h : Heap} {mg : Str → Option Value} (X : K.In h) (G : h.Ns mainGlobals mg) (c : SaysP fa fn pn ex K) (kt : ∃ es n, KDict K w (ga K "CHECKS") es n) (base : Heap) : Def P w K mg base "amount_at" ["kinds", "place"] 2 (spAmountAt) := by
  have T := facts_T (P := P) (w := w) X G c
  obtain ⟨fd41, FD41⟩ := c.d.def_ 41 (d := dd41) rfl
  have F41 := fun_of (st := s_amount_at) FD41
  have d_ends_of := facts_d_ends_of (P := P) (w := w) X G c kt base
  exact ⟨_, _, glo_ok X G (c.d.fact 41 (f := .glo "amount_at") rfl), F41.kp, (F41.binds (ps := ["kinds", "place"]) fun _ _ _ _ _ _ us hl => match us, hl with | [_, _], _ => rfl), ok_amount_at F41 T d_ends_of⟩
theorem facts_d_side_by_side {P : Program} {w : World} {K : PySem.W.Frag} {h : Heap} {mg : Str → Option Value} (X : K.In h) (G : h.Ns mainGlobals mg) (c : SaysP fa fn pn ex K) (kt : ∃ es n, KDict K w (ga K "CHECKS") es n) (base : Heap) : Def P w K mg base "side_by_side" ["kinds", "others"] 3 (spSides) := by
  have T := facts_T (P := P) (w := w) X G c
  obtain ⟨fd42, FD42⟩ := c.d.def_ 42 (d := dd42) rfl
  have F42 := fun_of (st := s_side_by_side) FD42
  have d_ends_of := facts_d_ends_of (P := P) (w := w) X G c kt base
  have d_amount_at := facts_d_amount_at (P := P) (w := w) X G c kt base
  exact ⟨_, _, glo_ok X G (c.d.fact 42 (f := .glo "side_by_side") rfl), F42.kp, (F42.binds (ps := ["kinds", "others"]) fun _ _ _ _ _ _ us hl => match us, hl with | [_, _], _ => rfl), ok_side_by_side F42 T d_ends_of d_amount_at⟩
theorem facts_d_gives_and_gets {P : Program} {w : World} {K : PySem.W.Frag} {h : Heap} {mg : Str → Option Value} (X : K.In h) (G : h.Ns mainGlobals mg) (c : SaysP fa fn pn ex K) (kt : ∃ es n, KDict K w (ga K "CHECKS") es n) (base : Heap) : Def P w K mg base "gives_and_gets" ["kinds", "others"] 4 (spGivesGets) := by
  have T := facts_T (P := P) (w := w) X G c
  obtain ⟨fd43, FD43⟩ := c.d.def_ 43 (d := dd43) rfl
  have F43 := fun_of (st := s_gives_and_gets) FD43
  have d_side_by_side := facts_d_side_by_side (P := P) (w := w) X G c kt base
  exact ⟨_, _, glo_ok X G (c.d.fact 43 (f := .glo "gives_and_gets") rfl), F43.kp, (F43.binds (ps := ["kinds", "others"]) fun _ _ _ _ _ _ us hl => match us, hl with | [_, _], _ => rfl), ok_gives_and_gets F43 T d_side_by_side⟩
theorem facts_d_least_gifts {P : Program} {w : World} {K : PySem.W.Frag} {h : Heap} {mg : Str → Option Value} (X : K.In h) (G : h.Ns mainGlobals mg) (c : SaysP fa fn pn ex K) (kt : ∃ es n, KDict K w (ga K "CHECKS") es n) (base : Heap) : Def P w K mg base "least_gifts" ["kinds", "others"] 5 (spLeastGifts) := by
  have T := facts_T (P := P) (w := w) X G c
  obtain ⟨fd44, FD44⟩ := c.d.def_ 44 (d := dd44) rfl
  have F44 := fun_of (st := s_least_gifts) FD44
  have d_ends_of := facts_d_ends_of (P := P) (w := w) X G c kt base
  have d_total_of := facts_d_total_of (P := P) (w := w) X G c kt base
  have d_first_crossing := facts_d_first_crossing (P := P) (w := w) X G c kt base
  have d_gives_and_gets := facts_d_gives_and_gets (P := P) (w := w) X G c kt base
  exact ⟨_, _, glo_ok X G (c.d.fact 44 (f := .glo "least_gifts") rfl), F44.kp, (F44.binds (ps := ["kinds", "others"]) fun _ _ _ _ _ _ us hl => match us, hl with | [_, _], _ => rfl), ok_least_gifts F44 T d_ends_of d_total_of d_first_crossing d_gives_and_gets⟩
theorem facts_d_gifts {P : Program} {w : World} {K : PySem.W.Frag} {h : Heap} {mg : Str → Option Value} (X : K.In h) (G : h.Ns mainGlobals mg) (c : SaysP fa fn pn ex K) (kt : ∃ es n, KDict K w (ga K "CHECKS") es n) (base : Heap) : Def P w K mg base "gifts" ["first", "second"] 6 (spGifts (ga K "Purse")) := by
  have T := facts_T (P := P) (w := w) X G c
  obtain ⟨fd45, FD45⟩ := c.d.def_ 45 (d := dd45) rfl
  have F45 := fun_of (st := s_gifts) FD45
  have d_kinds_of := facts_d_kinds_of (P := P) (w := w) X G c kt base
  have d_least_gifts := facts_d_least_gifts (P := P) (w := w) X G c kt base
  exact ⟨_, _, glo_ok X G (c.d.fact 45 (f := .glo "gifts") rfl), F45.kp, (F45.binds (ps := ["first", "second"]) fun _ _ _ _ _ _ us hl => match us, hl with | [_, _], _ => rfl), ok_gifts F45 T d_kinds_of d_least_gifts⟩
theorem facts_d_rows_of_gifts {P : Program} {w : World} {K : PySem.W.Frag} {h : Heap} {mg : Str → Option Value} (X : K.In h) (G : h.Ns mainGlobals mg) (c : SaysP fa fn pn ex K) (kt : ∃ es n, KDict K w (ga K "CHECKS") es n) (base : Heap) : Def P w K mg base "rows_of_gifts" ["wanted"] 1 (spRowsG) := by
  have T := facts_T (P := P) (w := w) X G c
  obtain ⟨fd46, FD46⟩ := c.d.def_ 46 (d := dd46) rfl
  have F46 := fun_of (st := s_rows_of_gifts) FD46
  exact ⟨_, _, glo_ok X G (c.d.fact 46 (f := .glo "rows_of_gifts") rfl), F46.kp, (F46.binds (ps := ["wanted"]) fun _ _ _ _ _ _ us hl => match us, hl with | [_], _ => rfl), ok_rows_of_gifts F46 T⟩
theorem facts_d_certify_gifts {P : Program} {w : World} {K : PySem.W.Frag} {h : Heap} {mg : Str → Option Value} (X : K.In h) (G : h.Ns mainGlobals mg) (c : SaysP fa fn pn ex K) (kt : ∃ es n, KDict K w (ga K "CHECKS") es n) (base : Heap) : Def P w K mg base "certify_gifts" ["first", "second"] 7 (spCertG (ga K "Purse")) := by
  have T := facts_T (P := P) (w := w) X G c
  obtain ⟨fd47, FD47⟩ := c.d.def_ 47 (d := dd47) rfl
  have F47 := fun_of (st := s_certify_gifts) FD47
  have d_gifts := facts_d_gifts (P := P) (w := w) X G c kt base
  have d_Purse_kinds := facts_d_Purse_kinds (P := P) (w := w) X G c kt base
  have d_gives_and_gets := facts_d_gives_and_gets (P := P) (w := w) X G c kt base
  have d_rows_of_gifts := facts_d_rows_of_gifts (P := P) (w := w) X G c kt base
  have d_Purse___str__ := facts_d_Purse___str__ (P := P) (w := w) X G c kt base
  exact ⟨_, _, glo_ok X G (c.d.fact 47 (f := .glo "certify_gifts") rfl), F47.kp, (F47.binds (ps := ["first", "second"]) fun _ _ _ _ _ _ us hl => match us, hl with | [_, _], _ => rfl), ok_certify_gifts F47 T d_gifts d_Purse_kinds d_gives_and_gets d_rows_of_gifts d_Purse___str__⟩
theorem facts_d_crossing {P : Program} {w : World} {K : PySem.W.Frag} {h : Heap} {mg : Str → Option Value} (X : K.In h) (G : h.Ns mainGlobals mg) (c : SaysP fa fn pn ex K) (kt : ∃ es n, KDict K w (ga K "CHECKS") es n) (base : Heap) : Def P w K mg base "crossing" ["first", "second"] 4 (spCrossing (ga K "Purse")) := by
  have T := facts_T (P := P) (w := w) X G c
  obtain ⟨fd48, FD48⟩ := c.d.def_ 48 (d := dd48) rfl
  have F48 := fun_of (st := s_crossing) FD48
  have d_kinds_of := facts_d_kinds_of (P := P) (w := w) X G c kt base
  have d_first_crossing := facts_d_first_crossing (P := P) (w := w) X G c kt base
  exact ⟨_, _, glo_ok X G (c.d.fact 48 (f := .glo "crossing") rfl), F48.kp, (F48.binds (ps := ["first", "second"]) fun _ _ _ _ _ _ us hl => match us, hl with | [_, _], _ => rfl), ok_crossing F48 T d_kinds_of d_first_crossing⟩
theorem facts_d_certify_order {P : Program} {w : World} {K : PySem.W.Frag} {h : Heap} {mg : Str → Option Value} (X : K.In h) (G : h.Ns mainGlobals mg) (c : SaysP fa fn pn ex K) (kt : ∃ es n, KDict K w (ga K "CHECKS") es n) (base : Heap) : Def P w K mg base "certify_order" ["first", "second"] 5 (spCertO (ga K "Purse")) := by
  have T := facts_T (P := P) (w := w) X G c
  obtain ⟨fd49, FD49⟩ := c.d.def_ 49 (d := dd49) rfl
  have F49 := fun_of (st := s_certify_order) FD49
  have d_crossing := facts_d_crossing (P := P) (w := w) X G c kt base
  have d_Purse___str__ := facts_d_Purse___str__ (P := P) (w := w) X G c kt base
  exact ⟨_, _, glo_ok X G (c.d.fact 49 (f := .glo "certify_order") rfl), F49.kp, (F49.binds (ps := ["first", "second"]) fun _ _ _ _ _ _ us hl => match us, hl with | [_, _], _ => rfl), ok_certify_order F49 T d_crossing d_Purse___str__⟩
theorem facts_d_is_tuple {P : Program} {w : World} {K : PySem.W.Frag} {h : Heap} {mg : Str → Option Value} (X : K.In h) (G : h.Ns mainGlobals mg) (c : SaysP fa fn pn ex K) (kt : ∃ es n, KDict K w (ga K "CHECKS") es n) (base : Heap) : Def P w K mg base "is_tuple" ["value"] 1 (spIsTy K "tuple") := by
  have T := facts_T (P := P) (w := w) X G c
  obtain ⟨fd50, FD50⟩ := c.d.def_ 50 (d := dd50) rfl
  have F50 := fun_of (st := s_is_tuple) FD50
  exact ⟨_, _, glo_ok X G (c.d.fact 50 (f := .glo "is_tuple") rfl), F50.kp, (F50.binds (ps := ["value"]) fun _ _ _ _ _ _ us hl => match us, hl with | [_], _ => rfl), ok_is_tuple F50 T⟩
theorem facts_d_is_text {P : Program} {w : World} {K : PySem.W.Frag} {h : Heap} {mg : Str → Option Value} (X : K.In h) (G : h.Ns mainGlobals mg) (c : SaysP fa fn pn ex K) (kt : ∃ es n, KDict K w (ga K "CHECKS") es n) (base : Heap) : Def P w K mg base "is_text" ["value"] 1 (spIsTy K "str") := by
  have T := facts_T (P := P) (w := w) X G c
  obtain ⟨fd51, FD51⟩ := c.d.def_ 51 (d := dd51) rfl
  have F51 := fun_of (st := s_is_text) FD51
  exact ⟨_, _, glo_ok X G (c.d.fact 51 (f := .glo "is_text") rfl), F51.kp, (F51.binds (ps := ["value"]) fun _ _ _ _ _ _ us hl => match us, hl with | [_], _ => rfl), ok_is_text F51 T⟩
theorem facts_d_told_rules {P : Program} {w : World} {K : PySem.W.Frag} {h : Heap} {mg : Str → Option Value} (X : K.In h) (G : h.Ns mainGlobals mg) (c : SaysP fa fn pn ex K) (kt : ∃ es n, KDict K w (ga K "CHECKS") es n) (base : Heap) : Def P w K mg base "told_rules" ["texts"] 7 (spToldR K) := by
  have T := facts_T (P := P) (w := w) X G c
  obtain ⟨fd52, FD52⟩ := c.d.def_ 52 (d := dd52) rfl
  have F52 := fun_of (st := s_told_rules) FD52
  have d_is_text := facts_d_is_text (P := P) (w := w) X G c kt base
  have d_bands_with := facts_d_bands_with (P := P) (w := w) X G c kt base
  exact ⟨_, _, glo_ok X G (c.d.fact 52 (f := .glo "told_rules") rfl), F52.kp, (F52.binds (ps := ["texts"]) fun _ _ _ _ _ _ us hl => match us, hl with | [_], _ => rfl), ok_told_rules F52 T d_is_text d_bands_with⟩
theorem facts_d_told_kinds {P : Program} {w : World} {K : PySem.W.Frag} {h : Heap} {mg : Str → Option Value} (X : K.In h) (G : h.Ns mainGlobals mg) (c : SaysP fa fn pn ex K) (kt : ∃ es n, KDict K w (ga K "CHECKS") es n) (base : Heap) : Def P w K mg base "told_kinds" ["text"] 6 (spToldK) := by
  have T := facts_T (P := P) (w := w) X G c
  obtain ⟨fd53, FD53⟩ := c.d.def_ 53 (d := dd53) rfl
  have F53 := fun_of (st := s_told_kinds) FD53
  have d_is_text := facts_d_is_text (P := P) (w := w) X G c kt base
  have d_kinds_with := facts_d_kinds_with (P := P) (w := w) X G c kt base
  exact ⟨_, _, glo_ok X G (c.d.fact 53 (f := .glo "told_kinds") rfl), F53.kp, (F53.binds (ps := ["text"]) fun _ _ _ _ _ _ us hl => match us, hl with | [_], _ => rfl), ok_told_kinds F53 T d_is_text d_kinds_with⟩
theorem facts_d_accepts_more {P : Program} {w : World} {K : PySem.W.Frag} {h : Heap} {mg : Str → Option Value} (X : K.In h) (G : h.Ns mainGlobals mg) (c : SaysP fa fn pn ex K) (kt : ∃ es n, KDict K w (ga K "CHECKS") es n) (base : Heap) : Def P w K mg base "accepts_more" ["told", "certificate"] 8 (spMoreC K) := by
  have T := facts_T (P := P) (w := w) X G c
  obtain ⟨fd54, FD54⟩ := c.d.def_ 54 (d := dd54) rfl
  have F54 := fun_of (st := s_accepts_more) FD54
  have d_told_rules := facts_d_told_rules (P := P) (w := w) X G c kt base
  have d_is_tuple := facts_d_is_tuple (P := P) (w := w) X G c kt base
  have d_first_turn := facts_d_first_turn (P := P) (w := w) X G c kt base
  have d_first_broken := facts_d_first_broken (P := P) (w := w) X G c kt base
  have d_neighbours := facts_d_neighbours (P := P) (w := w) X G c kt base
  exact ⟨_, _, glo_ok X G (c.d.fact 54 (f := .glo "accepts_more") rfl), F54.kp, (F54.binds (ps := ["told", "certificate"]) fun _ _ _ _ _ _ us hl => match us, hl with | [_, _], _ => rfl), ok_accepts_more F54 T d_told_rules d_is_tuple d_first_turn d_first_broken d_neighbours⟩
theorem facts_d_accepts_not_more {P : Program} {w : World} {K : PySem.W.Frag} {h : Heap} {mg : Str → Option Value} (X : K.In h) (G : h.Ns mainGlobals mg) (c : SaysP fa fn pn ex K) (kt : ∃ es n, KDict K w (ga K "CHECKS") es n) (base : Heap) : Def P w K mg base "accepts_not_more" ["told", "certificate"] 8 (spNotMoreS K) := by
  have T := facts_T (P := P) (w := w) X G c
  obtain ⟨fd55, FD55⟩ := c.d.def_ 55 (d := dd55) rfl
  have F55 := fun_of (st := s_accepts_not_more) FD55
  have d_told_rules := facts_d_told_rules (P := P) (w := w) X G c kt base
  have d_told_kinds := facts_d_told_kinds (P := P) (w := w) X G c kt base
  have d_first_crossing := facts_d_first_crossing (P := P) (w := w) X G c kt base
  have d_kinds_behind := facts_d_kinds_behind (P := P) (w := w) X G c kt base
  exact ⟨_, _, glo_ok X G (c.d.fact 55 (f := .glo "accepts_not_more") rfl), F55.kp, (F55.binds (ps := ["told", "certificate"]) fun _ _ _ _ _ _ us hl => match us, hl with | [_, _], _ => rfl), ok_accepts_nmS F55 T d_told_rules d_told_kinds d_first_crossing d_kinds_behind⟩
theorem facts_d_is_integer_checker {P : Program} {w : World} {K : PySem.W.Frag} {h : Heap} {mg : Str → Option Value} (X : K.In h) (G : h.Ns mainGlobals mg) (c : SaysP fa fn pn ex K) (kt : ∃ es n, KDict K w (ga K "CHECKS") es n) (base : Heap) : Def P w K mg base "is_integer_checker" ["value"] 1 (spIsTy K "int") := by
  have T := facts_T (P := P) (w := w) X G c
  obtain ⟨fd56, FD56⟩ := c.d.def_ 56 (d := dd56) rfl
  have F56 := fun_of (st := s_is_integer_checker) FD56
  exact ⟨_, _, glo_ok X G (c.d.fact 56 (f := .glo "is_integer_checker") rfl), F56.kp, (F56.binds (ps := ["value"]) fun _ _ _ _ _ _ us hl => match us, hl with | [_], _ => rfl), ok_is_integer_checker F56 T⟩
theorem facts_d_told_purses {P : Program} {w : World} {K : PySem.W.Frag} {h : Heap} {mg : Str → Option Value} (X : K.In h) (G : h.Ns mainGlobals mg) (c : SaysP fa fn pn ex K) (kt : ∃ es n, KDict K w (ga K "CHECKS") es n) (base : Heap) : Def P w K mg base "told_purses" ["texts"] 7 (spToldP K) := by
  have T := facts_T (P := P) (w := w) X G c
  obtain ⟨fd57, FD57⟩ := c.d.def_ 57 (d := dd57) rfl
  have F57 := fun_of (st := s_told_purses) FD57
  have d_told_kinds := facts_d_told_kinds (P := P) (w := w) X G c kt base
  exact ⟨_, _, glo_ok X G (c.d.fact 57 (f := .glo "told_purses") rfl), F57.kp, (F57.binds (ps := ["texts"]) fun _ _ _ _ _ _ us hl => match us, hl with | [_], _ => rfl), ok_told_purses F57 T d_told_kinds⟩
theorem facts_d_are_integers {P : Program} {w : World} {K : PySem.W.Frag} {h : Heap} {mg : Str → Option Value} (X : K.In h) (G : h.Ns mainGlobals mg) (c : SaysP fa fn pn ex K) (kt : ∃ es n, KDict K w (ga K "CHECKS") es n) (base : Heap) : Def P w K mg base "are_integers" ["value", "many"] 2 (spAreInts K) := by
  have T := facts_T (P := P) (w := w) X G c
  obtain ⟨fd58, FD58⟩ := c.d.def_ 58 (d := dd58) rfl
  have F58 := fun_of (st := s_are_integers) FD58
  have d_is_tuple := facts_d_is_tuple (P := P) (w := w) X G c kt base
  have d_is_integer_checker := facts_d_is_integer_checker (P := P) (w := w) X G c kt base
  exact ⟨_, _, glo_ok X G (c.d.fact 58 (f := .glo "are_integers") rfl), F58.kp, (F58.binds (ps := ["value", "many"]) fun _ _ _ _ _ _ us hl => match us, hl with | [_, _], _ => rfl), ok_are_integers F58 T d_is_tuple d_is_integer_checker⟩
theorem facts_d_accepts_even {P : Program} {w : World} {K : PySem.W.Frag} {h : Heap} {mg : Str → Option Value} (X : K.In h) (G : h.Ns mainGlobals mg) (c : SaysP fa fn pn ex K) (kt : ∃ es n, KDict K w (ga K "CHECKS") es n) (base : Heap) : Def P w K mg base "accepts_even" ["told", "certificate"] 8 (spEven K) := by
  have T := facts_T (P := P) (w := w) X G c
  obtain ⟨fd59, FD59⟩ := c.d.def_ 59 (d := dd59) rfl
  have F59 := fun_of (st := s_accepts_even) FD59
  have d_is_tuple := facts_d_is_tuple (P := P) (w := w) X G c kt base
  have d_told_purses := facts_d_told_purses (P := P) (w := w) X G c kt base
  have d_first_crossing := facts_d_first_crossing (P := P) (w := w) X G c kt base
  exact ⟨_, _, glo_ok X G (c.d.fact 59 (f := .glo "accepts_even") rfl), F59.kp, (F59.binds (ps := ["told", "certificate"]) fun _ _ _ _ _ _ us hl => match us, hl with | [_, _], _ => rfl), ok_accepts_even F59 T d_is_tuple d_told_purses d_first_crossing⟩
theorem facts_d_accepts_uneven {P : Program} {w : World} {K : PySem.W.Frag} {h : Heap} {mg : Str → Option Value} (X : K.In h) (G : h.Ns mainGlobals mg) (c : SaysP fa fn pn ex K) (kt : ∃ es n, KDict K w (ga K "CHECKS") es n) (base : Heap) : Def P w K mg base "accepts_uneven" ["told", "certificate"] 8 (spUneven K) := by
  have T := facts_T (P := P) (w := w) X G c
  obtain ⟨fd60, FD60⟩ := c.d.def_ 60 (d := dd60) rfl
  have F60 := fun_of (st := s_accepts_uneven) FD60
  have d_told_purses := facts_d_told_purses (P := P) (w := w) X G c kt base
  have d_are_integers := facts_d_are_integers (P := P) (w := w) X G c kt base
  have d_lowest_share := facts_d_lowest_share (P := P) (w := w) X G c kt base
  exact ⟨_, _, glo_ok X G (c.d.fact 60 (f := .glo "accepts_uneven") rfl), F60.kp, (F60.binds (ps := ["told", "certificate"]) fun _ _ _ _ _ _ us hl => match us, hl with | [_, _], _ => rfl), ok_accepts_uneven F60 T d_told_purses d_are_integers d_lowest_share⟩
theorem facts_d_is_gift {P : Program} {w : World} {K : PySem.W.Frag} {h : Heap} {mg : Str → Option Value} (X : K.In h) (G : h.Ns mainGlobals mg) (c : SaysP fa fn pn ex K) (kt : ∃ es n, KDict K w (ga K "CHECKS") es n) (base : Heap) : Def P w K mg base "is_gift" ["row", "amounts"] 3 (spIsGift K) := by
  have T := facts_T (P := P) (w := w) X G c
  obtain ⟨fd61, FD61⟩ := c.d.def_ 61 (d := dd61) rfl
  have F61 := fun_of (st := s_is_gift) FD61
  have d_are_integers := facts_d_are_integers (P := P) (w := w) X G c kt base
  exact ⟨_, _, glo_ok X G (c.d.fact 61 (f := .glo "is_gift") rfl), F61.kp, (F61.binds (ps := ["row", "amounts"]) fun _ _ _ _ _ _ us hl => match us, hl with | [_, _], _ => rfl), ok_is_gift F61 T d_are_integers⟩
theorem facts_d_sum_at {P : Program} {w : World} {K : PySem.W.Frag} {h : Heap} {mg : Str → Option Value} (X : K.In h) (G : h.Ns mainGlobals mg) (c : SaysP fa fn pn ex K) (kt : ∃ es n, KDict K w (ga K "CHECKS") es n) (base : Heap) : Def P w K mg base "sum_at" ["rows", "place", "amount"] 1 (spSumAt K) := by
  have T := facts_T (P := P) (w := w) X G c
  obtain ⟨fd62, FD62⟩ := c.d.def_ 62 (d := dd62) rfl
  have F62 := fun_of (st := s_sum_at) FD62
  exact ⟨_, _, glo_ok X G (c.d.fact 62 (f := .glo "sum_at") rfl), F62.kp, (F62.binds (ps := ["rows", "place", "amount"]) fun _ _ _ _ _ _ us hl => match us, hl with | [_, _, _], _ => rfl), ok_sum_at F62 T⟩
theorem facts_d_are_gifts {P : Program} {w : World} {K : PySem.W.Frag} {h : Heap} {mg : Str → Option Value} (X : K.In h) (G : h.Ns mainGlobals mg) (c : SaysP fa fn pn ex K) (kt : ∃ es n, KDict K w (ga K "CHECKS") es n) (base : Heap) : Def P w K mg base "are_gifts" ["rows", "wanted"] 4 (spAreGifts K) := by
  have T := facts_T (P := P) (w := w) X G c
  obtain ⟨fd63, FD63⟩ := c.d.def_ 63 (d := dd63) rfl
  have F63 := fun_of (st := s_are_gifts) FD63
  have d_is_tuple := facts_d_is_tuple (P := P) (w := w) X G c kt base
  have d_is_gift := facts_d_is_gift (P := P) (w := w) X G c kt base
  have d_sum_at := facts_d_sum_at (P := P) (w := w) X G c kt base
  exact ⟨_, _, glo_ok X G (c.d.fact 63 (f := .glo "are_gifts") rfl), F63.kp, (F63.binds (ps := ["rows", "wanted"]) fun _ _ _ _ _ _ us hl => match us, hl with | [_, _], _ => rfl), ok_are_gifts F63 T d_is_tuple d_is_gift d_sum_at⟩
theorem facts_d_accepts_gifts {P : Program} {w : World} {K : PySem.W.Frag} {h : Heap} {mg : Str → Option Value} (X : K.In h) (G : h.Ns mainGlobals mg) (c : SaysP fa fn pn ex K) (kt : ∃ es n, KDict K w (ga K "CHECKS") es n) (base : Heap) : Def P w K mg base "accepts_gifts" ["told", "certificate"] 8 (spGiftsC K) := by
  have T := facts_T (P := P) (w := w) X G c
  obtain ⟨fd64, FD64⟩ := c.d.def_ 64 (d := dd64) rfl
  have F64 := fun_of (st := s_accepts_gifts) FD64
  have d_told_purses := facts_d_told_purses (P := P) (w := w) X G c kt base
  have d_is_integer_checker := facts_d_is_integer_checker (P := P) (w := w) X G c kt base
  have d_least_gifts := facts_d_least_gifts (P := P) (w := w) X G c kt base
  have d_are_gifts := facts_d_are_gifts (P := P) (w := w) X G c kt base
  have d_gives_and_gets := facts_d_gives_and_gets (P := P) (w := w) X G c kt base
  exact ⟨_, _, glo_ok X G (c.d.fact 64 (f := .glo "accepts_gifts") rfl), F64.kp, (F64.binds (ps := ["told", "certificate"]) fun _ _ _ _ _ _ us hl => match us, hl with | [_, _], _ => rfl), ok_accepts_gifts F64 T d_told_purses d_is_integer_checker d_least_gifts d_are_gifts d_gives_and_gets⟩
theorem facts_d_accepts {P : Program} {w : World} {K : PySem.W.Frag} {h : Heap} {mg : Str → Option Value} (X : K.In h) (G : h.Ns mainGlobals mg) (c : SaysP fa fn pn ex K) (kt : ∃ es n, KDict K w (ga K "CHECKS") es n) (base : Heap) : Def P w K mg base "accepts" ["claim", "certificate"] 9 (spAcc5 K) := by
  have T := facts_T (P := P) (w := w) X G c
  obtain ⟨fd65, FD65⟩ := c.d.def_ 65 (d := dd65) rfl
  have F65 := fun_of (st := s_accepts) FD65
  have d_CHECKS := facts_d_CHECKS (P := P) (w := w) X G c kt base
  have d_is_tuple := facts_d_is_tuple (P := P) (w := w) X G c kt base
  have d_is_text := facts_d_is_text (P := P) (w := w) X G c kt base
  have d_accepts_even := facts_d_accepts_even (P := P) (w := w) X G c kt base
  have d_accepts_uneven := facts_d_accepts_uneven (P := P) (w := w) X G c kt base
  have d_accepts_more := facts_d_accepts_more (P := P) (w := w) X G c kt base
  have d_accepts_not_more := facts_d_accepts_not_more (P := P) (w := w) X G c kt base
  have d_accepts_gifts := facts_d_accepts_gifts (P := P) (w := w) X G c kt base
  exact ⟨_, _, glo_ok X G (c.d.fact 65 (f := .glo "accepts") rfl), F65.kp, (F65.binds (ps := ["claim", "certificate"]) fun _ _ _ _ _ _ us hl => match us, hl with | [_, _], _ => rfl), ok_accepts5 F65 T d_CHECKS d_is_tuple d_is_text d_accepts_even d_accepts_uneven d_accepts_more d_accepts_not_more d_accepts_gifts⟩
theorem facts_d_accepts_KP {P : Program} {w : World} {K : PySem.W.Frag} {h : Heap} {mg : Str → Option Value} (X : K.In h) (G : h.Ns mainGlobals mg) (c : SaysP fa fn pn ex K) (kt : ∃ es n, KDict K w (ga K "CHECKS") es n) (base : Heap) : KDefP P w K mg base "accepts" ["claim", "certificate"] ["certificate", "claim"] [1, 0] 9 (spAcc5 K) := by
  have T := facts_T (P := P) (w := w) X G c
  obtain ⟨fd65, FD65⟩ := c.d.def_ 65 (d := dd65) rfl
  have F65 := fun_of (st := s_accepts) FD65
  have d_CHECKS := facts_d_CHECKS (P := P) (w := w) X G c kt base
  have d_is_tuple := facts_d_is_tuple (P := P) (w := w) X G c kt base
  have d_is_text := facts_d_is_text (P := P) (w := w) X G c kt base
  have d_accepts_even := facts_d_accepts_even (P := P) (w := w) X G c kt base
  have d_accepts_uneven := facts_d_accepts_uneven (P := P) (w := w) X G c kt base
  have d_accepts_more := facts_d_accepts_more (P := P) (w := w) X G c kt base
  have d_accepts_not_more := facts_d_accepts_not_more (P := P) (w := w) X G c kt base
  have d_accepts_gifts := facts_d_accepts_gifts (P := P) (w := w) X G c kt base
  exact ⟨_, _, glo_ok X G (c.d.fact 65 (f := .glo "accepts") rfl), F65.kp, (Fun.kbp (ks := ["certificate", "claim"]) (ps := ["claim", "certificate"]) (idx := [1, 0]) F65 fun _ _ _ _ _ _ ws h2 => match ws, h2 with | [_, _], _ => rfl), ok_accepts5 F65 T d_CHECKS d_is_tuple d_is_text d_accepts_even d_accepts_uneven d_accepts_more d_accepts_not_more d_accepts_gifts⟩
theorem facts_d_law_well {P : Program} {w : World} {K : PySem.W.Frag} {h : Heap} {mg : Str → Option Value} (X : K.In h) (G : h.Ns mainGlobals mg) (c : SaysP fa fn pn ex K) (kt : ∃ es n, KDict K w (ga K "CHECKS") es n) (base : Heap) : Def P w K mg base "_law_well" ["script", "at"] 1 (spGwell K) := by
  have T := facts_T (P := P) (w := w) X G c
  obtain ⟨fd66, FD66⟩ := c.d.def_ 66 (d := dd66) rfl
  have F66 := fun_of (st := s__law_well) FD66
  exact ⟨_, _, glo_ok X G (c.d.fact 66 (f := .glo "_law_well") rfl), F66.kp, (F66.binds (ps := ["script", "at"]) fun _ _ _ _ _ _ us hl => match us, hl with | [_, _], _ => rfl), ok_gwell F66 T⟩
theorem facts_d_law_draw {P : Program} {w : World} {K : PySem.W.Frag} {h : Heap} {mg : Str → Option Value} (X : K.In h) (G : h.Ns mainGlobals mg) (c : SaysP fa fn pn ex K) (kt : ∃ es n, KDict K w (ga K "CHECKS") es n) (base : Heap) : Def P w K mg base "_law_draw" ["well", "many"] 1 (spDraw) := by
  have T := facts_T (P := P) (w := w) X G c
  obtain ⟨fd67, FD67⟩ := c.d.def_ 67 (d := dd67) rfl
  have F67 := fun_of (st := s__law_draw) FD67
  exact ⟨_, _, glo_ok X G (c.d.fact 67 (f := .glo "_law_draw") rfl), F67.kp, (F67.binds (ps := ["well", "many"]) fun _ _ _ _ _ _ us hl => match us, hl with | [_, _], _ => rfl), ok_gdraw F67 T⟩
theorem facts_d_law_far {P : Program} {w : World} {K : PySem.W.Frag} {h : Heap} {mg : Str → Option Value} (X : K.In h) (G : h.Ns mainGlobals mg) (c : SaysP fa fn pn ex K) (kt : ∃ es n, KDict K w (ga K "CHECKS") es n) (base : Heap) : Def P w K mg base "_law_far" ["well", "top"] 2 (spFar) := by
  have T := facts_T (P := P) (w := w) X G c
  obtain ⟨fd68, FD68⟩ := c.d.def_ 68 (d := dd68) rfl
  have F68 := fun_of (st := s__law_far) FD68
  have d_law_draw := facts_d_law_draw (P := P) (w := w) X G c kt base
  exact ⟨_, _, glo_ok X G (c.d.fact 68 (f := .glo "_law_far") rfl), F68.kp, (F68.binds (ps := ["well", "top"]) fun _ _ _ _ _ _ us hl => match us, hl with | [_, _], _ => rfl), ok_gfar F68 T d_law_draw⟩
theorem facts_d_law_spell {P : Program} {w : World} {K : PySem.W.Frag} {h : Heap} {mg : Str → Option Value} (X : K.In h) (G : h.Ns mainGlobals mg) (c : SaysP fa fn pn ex K) (kt : ∃ es n, KDict K w (ga K "CHECKS") es n) (base : Heap) : Def P w K mg base "_law_spell" ["bands"] 1 (spPage) := by
  have T := facts_T (P := P) (w := w) X G c
  obtain ⟨fd69, FD69⟩ := c.d.def_ 69 (d := dd69) rfl
  have F69 := fun_of (st := s__law_spell) FD69
  exact ⟨_, _, glo_ok X G (c.d.fact 69 (f := .glo "_law_spell") rfl), F69.kp, (F69.binds (ps := ["bands"]) fun _ _ _ _ _ _ us hl => match us, hl with | [_], _ => rfl), ok_gspell F69 T⟩
theorem facts_d_law_lines {P : Program} {w : World} {K : PySem.W.Frag} {h : Heap} {mg : Str → Option Value} (X : K.In h) (G : h.Ns mainGlobals mg) (c : SaysP fa fn pn ex K) (kt : ∃ es n, KDict K w (ga K "CHECKS") es n) (base : Heap) : Def P w K mg base "_law_lines" ["kinds"] 1 (spSheet) := by
  have T := facts_T (P := P) (w := w) X G c
  obtain ⟨fd70, FD70⟩ := c.d.def_ 70 (d := dd70) rfl
  have F70 := fun_of (st := s__law_lines) FD70
  exact ⟨_, _, glo_ok X G (c.d.fact 70 (f := .glo "_law_lines") rfl), F70.kp, (F70.binds (ps := ["kinds"]) fun _ _ _ _ _ _ us hl => match us, hl with | [_], _ => rfl), ok_glines F70 T⟩
theorem facts_d_law_same {P : Program} {w : World} {K : PySem.W.Frag} {h : Heap} {mg : Str → Option Value} (X : K.In h) (G : h.Ns mainGlobals mg) (c : SaysP fa fn pn ex K) (kt : ∃ es n, KDict K w (ga K "CHECKS") es n) (base : Heap) : GDef P w K mg base "_law_same" ["told", "due"] 1 (spSameD K) := by
  have T := facts_T (P := P) (w := w) X G c
  obtain ⟨fd71, FD71⟩ := c.d.def_ 71 (d := dd71) rfl
  have F71 := fun_of (st := s__law_same) FD71
  exact ⟨_, _, glo_ok X G (c.d.fact 71 (f := .glo "_law_same") rfl), F71.kp, (F71.binds (ps := ["told", "due"]) fun _ _ _ _ _ _ us hl => match us, hl with | [_, _], _ => rfl), ok_gsameD F71 T⟩
theorem facts_d_law_judged {P : Program} {w : World} {K : PySem.W.Frag} {h : Heap} {mg : Str → Option Value} (X : K.In h) (G : h.Ns mainGlobals mg) (c : SaysP fa fn pn ex K) (kt : ∃ es n, KDict K w (ga K "CHECKS") es n) (base : Heap) : GDef P w K mg base "_law_judged" ["told", "paper", "due"] 10 (spJud5 K) := by
  have T := facts_T (P := P) (w := w) X G c
  obtain ⟨fd72, FD72⟩ := c.d.def_ 72 (d := dd72) rfl
  have F72 := fun_of (st := s__law_judged) FD72
  have d_accepts := facts_d_accepts (P := P) (w := w) X G c kt base
  have d_accepts_KP := facts_d_accepts_KP (P := P) (w := w) X G c kt base
  have d_law_same := facts_d_law_same (P := P) (w := w) X G c kt base
  exact ⟨_, _, glo_ok X G (c.d.fact 72 (f := .glo "_law_judged") rfl), F72.kp, (F72.binds (ps := ["told", "paper", "due"]) fun _ _ _ _ _ _ us hl => match us, hl with | [_, _, _], _ => rfl), ok_gjudged6 F72 T d_accepts d_accepts_KP d_law_same⟩
theorem facts_d_law_rules_right {P : Program} {w : World} {K : PySem.W.Frag} {h : Heap} {mg : Str → Option Value} (X : K.In h) (G : h.Ns mainGlobals mg) (c : SaysP fa fn pn ex K) (kt : ∃ es n, KDict K w (ga K "CHECKS") es n) (base : Heap) : GDef P w K mg base "_law_rules_right" ["well"] 14 (spRight93) := by
  have T := facts_T (P := P) (w := w) X G c
  obtain ⟨fd73, FD73⟩ := c.d.def_ 73 (d := dd73) rfl
  have F73 := fun_of (st := s__law_rules_right) FD73
  have d_law_far := facts_d_law_far (P := P) (w := w) X G c kt base
  have d_law_draw := facts_d_law_draw (P := P) (w := w) X G c kt base
  have d_Rule_init := facts_d_Rule_init (P := P) (w := w) X G c kt base
  have d_certify_evening := facts_d_certify_evening (P := P) (w := w) X G c kt base
  have d_law_same := facts_d_law_same (P := P) (w := w) X G c kt base
  have d_law_spell := facts_d_law_spell (P := P) (w := w) X G c kt base
  have d_law_judged := facts_d_law_judged (P := P) (w := w) X G c kt base
  exact ⟨_, _, glo_ok X G (c.d.fact 73 (f := .glo "_law_rules_right") rfl), F73.kp, (F73.binds (ps := ["well"]) fun _ _ _ _ _ _ us hl => match us, hl with | [_], _ => rfl), ok_rules91 F73 T d_law_far d_law_draw d_Rule_init d_certify_evening d_law_same d_law_spell d_law_judged⟩
theorem facts_d_law_purses_right {P : Program} {w : World} {K : PySem.W.Frag} {h : Heap} {mg : Str → Option Value} (X : K.In h) (G : h.Ns mainGlobals mg) (c : SaysP fa fn pn ex K) (kt : ∃ es n, KDict K w (ga K "CHECKS") es n) (base : Heap) : GDef P w K mg base "_law_purses_right" ["well"] 11 (spRight93) := by
  have T := facts_T (P := P) (w := w) X G c
  obtain ⟨fd74, FD74⟩ := c.d.def_ 74 (d := dd74) rfl
  have F74 := fun_of (st := s__law_purses_right) FD74
  have d_law_far := facts_d_law_far (P := P) (w := w) X G c kt base
  have d_law_draw := facts_d_law_draw (P := P) (w := w) X G c kt base
  have d_Purse_init := facts_d_Purse_init (P := P) (w := w) X G c kt base
  have d_certify_gifts := facts_d_certify_gifts (P := P) (w := w) X G c kt base
  have d_certify_order := facts_d_certify_order (P := P) (w := w) X G c kt base
  have d_law_same := facts_d_law_same (P := P) (w := w) X G c kt base
  have d_law_lines := facts_d_law_lines (P := P) (w := w) X G c kt base
  have d_law_judged := facts_d_law_judged (P := P) (w := w) X G c kt base
  exact ⟨_, _, glo_ok X G (c.d.fact 74 (f := .glo "_law_purses_right") rfl), F74.kp, (F74.binds (ps := ["well"]) fun _ _ _ _ _ _ us hl => match us, hl with | [_], _ => rfl), ok_purses91 F74 T d_law_far d_law_draw d_Purse_init d_certify_gifts d_certify_order d_law_same d_law_lines d_law_judged⟩
theorem facts {P : Program} {w : World} {K : PySem.W.Frag} {h : Heap} {mg : Str → Option Value} {f : Addr} (X : K.In h) (G : h.Ns mainGlobals mg) (hfa : mg ("law" : Str) = some (.ref f)) (c : SaysP fa fn pn ex K) (kt : ∃ es n, KDict K w (ga K "CHECKS") es n) :
    ∃ fd : FuncData, (∀ (s : Shared) (v : Value), BindsTo s fd ⟨[v], []⟩ [("script", v)]) ∧ ∀ base : Heap, K.In base → base.Ns mainGlobals mg → FnG P w K mg base 15 f fd ["script"] (spLaw K) := by
  obtain ⟨fd75, FD75⟩ := c.d.def_ 75 (d := dd75) rfl
  have F75 := fun_of (st := s_law) FD75
  have e := hfa.symm.trans (glo_ok X G (c.d.fact 75 (f := .glo "law") rfl))
  cases e
  refine ⟨fd75, fun s v => FunD.bindsA (ps := ["script"]) FD75 (fun _ _ _ _ _ _ us hl => match us, hl with | [_], _ => rfl) s [v] rfl, fun base _ _ => ?_⟩
  have T := facts_T (P := P) (w := w) X G c
  have d_law_well := facts_d_law_well (P := P) (w := w) X G c kt base
  have d_law_rules_right := facts_d_law_rules_right (P := P) (w := w) X G c kt base
  have d_law_purses_right := facts_d_law_purses_right (P := P) (w := w) X G c kt base
  exact ok_law91 F75 T d_law_well d_law_rules_right d_law_purses_right
end EvE
open PySem PySem.W PySem.Calls PyProof.Rows
set_option maxHeartbeats 0 in
theorem PySem.Challenge.cw_evenedshares_k91_known_certificates_holds : PySem.Challenge.rw_evenedshares_k91_known_certificates.Holds := by
  w_on; o_law; o_head EvE.hk
  case hw => w_witness2
  case hc =>
    refine Ev.walk_ofG (l := PySem.Challenge.rw_evenedshares_k91_known_certificates) (n := 63) (k := 15) (x := "script") rfl (by decide) (by kernel_rfl) ⟨rfl, by decide, by decide⟩ ?_
    intro w mg fa h Y G hmg0
    obtain ⟨K, KX, c⟩ := Y
    have hmg : mg ("law" : PySem.Str) = some (.ref fa) := hmg0
    obtain ⟨fd, hb, hF⟩ := EvE.facts (P := (PySem.Challenge.rw_evenedshares_k91_known_certificates).prog) (w := w) KX G hmg c.p (c.t _ (List.mem_cons_self ..))
    exact ⟨K, fd, _, KX, hb, fun H a ns hl hS => ⟨a, ns, rfl, hS, hl, fun _ => rfl⟩, hF⟩


