import PyProof.Rows.All
import Wide.All
import OpenK.AllK
import Wide.FinOn
import HandS.Base
import HandS.Call
import HandS.List
import HandS.Comp
import HandS.Ends
import HandS.Iter
import HandS.Words
import HandS.WordsList
import HandS.Wide
import PyProof.ReprRoads
import KE.GoesMore
import HandS.ForMost
import HandS.TupAny
import HandS.TupMul
import HandS.IsInst
import HandS.Walk
import HandS.SetFor
import HandS.Strs
import HandS.SortRule
import PyProof.TupleOfSeq
import HandS.Deep
import PySem.Challenge.RW_ringswings_k16_whole_passages_and_swings
set_option Elab.async false
set_option linter.all false
set_option maxRecDepth 100000
/-! Ringswings, the common part: promises of defs that may call repr (no repr is under way around them), repr of data, enumerate of a tuple. -/
namespace RS
open PySem PySem.Spec PyProof.Rows L2

/-! ### promises under the condition that no repr is under way -/
structure FnG (P : Program) (w : World) (K : PySem.W.Frag) (mg : Str → Option Value) (base : Heap) (CX : CXT) (k : Nat)
    (f : Addr) (fd : FuncData) (ps : List Str) (sp : Sp) : Prop where
  len : ∀ vs H Q E, sp vs H Q E → vs.length = ps.length
  run : ∀ (A : Around) (outer : List Env) (s : Shared) (H : Hp) (args : Args) (us : List Value) (vs : List V) (Q : VK) (E : XK),
    A.guards = some [] → Room k A → Env0 P w K mg base A outer s H → BindsTo s fd args (ps.zip us) → Vals vs us → sp vs H Q E →
      codeAny (model P w) A (.call (.ref f) args) (CR CX outer P w H s Q E) s

section
variable {P : Program} {w : World} {K : PySem.W.Frag} {mg : Str → Option Value} {base : Heap}

theorem okG {x qual : Str} {st : Stmt} {f : Addr} {fd : FuncData} {N ps : List Str} {k : Nat} {sp : Sp} (F : Fun K x qual st f fd)
    (S : FnScope N ps (defScope st)) (len : ∀ vs H Q E, sp vs H Q E → vs.length = ps.length)
    (walk : ∀ (cdv : Value) (A : Around) (outer : List Env) (s : Shared) (H : Hp) (vs : List V) (Q : VK) (E : XK), A.guards = some [] →
      Room k (A.deeper (envOfC qual (defScope st) s.heap.objs.size f cdv)) → sp vs H Q E →
      ∃ t, PSs (cxOf CX0 P w K mg base N qual (defScope st) f cdv A outer s H E).nox (defBody st) t ∧
        t { nx := fun _ H' => Q .non H', rt := Q } (start N vs) H) :
    FnG P w K mg base CX0 (k + 1) f fd ps sp := by
  obtain ⟨oc, od, kV, doc, pm, an, cdv, ct, osl, rfl, lk, hcd⟩ := F.ex
  refine ⟨len, ?_⟩
  intro A outer s H args us vs Q E hgd room env bnd rel prom
  have hlen := len _ _ _ _ prom
  have inK : K.In s.heap := env.mod.kin.keeps fun b o q => (env.bs b o q).1
  have noLim : s.heap.NoLimit := env.mod.nolimit.keeps fun b o q => (env.bs b o q).1
  refine codeAny_call_function room.depth (inK _ _ lk) rfl S.co S.gen rfl (PySem.W.codeRec_of inK hcd) (bnd _ _ _ _ ?_)
  refine wpAny_newFunctionEnv_cells S.kind ?_ ?_
  · rintro ⟨n, v⟩ mem
    exact (S.par n (List.of_mem_zip mem).1).imp id fun q => ⟨q, PySem.W.cellsFrom_some _ _ _ (.inl q)⟩
  · intro env' he s1 x1
    subst he
    refine ⟨noLim.keeps x1.toInCall.keep, codeAny_func ?_⟩
    obtain ⟨t, ht, hq⟩ := walk cdv A outer s H vs Q E hgd (room.deeper _) prom
    have I := inv_start (CX := CX0) (E := E) S room.hd env hlen rel x1
    refine wpAny_mono (ht.nox.run [] s1 (start N vs) H _ I hq) ?_ (fun _ _ z => z)
    intro fl s' hs
    cases fl with
    | ret u =>
      obtain ⟨v, σ', H', J, rv, q⟩ := hs
      exact ⟨v, H', J.os, J.bare, J.base, J.hok, rv, q⟩
    | next =>
      obtain ⟨σ', H', J, q⟩ := hs
      exact ⟨V.non, H', J.os, J.bare, J.base, J.hok, rfl, q⟩
    | brk => exact hs.elim fun _ h => h.elim fun _ h => h.2.elim
    | cont => exact hs.elim fun _ h => h.elim fun _ h => h.2.elim
end

section
variable {X : Cx} {CX : CXT} {k : Nat} {f : Addr} {fd : FuncData} {ps : List Str} {sp : Sp} {E : XK} {x : Str} {p pos : Pos}
  {e : Expr} {es : List Expr} {t : TA}

theorem pe_callG (hgd : X.A.guards = some []) (F : FnG X.prog X.w X.K X.mg X.base CX k f fd ps sp) (room : Room k X.A) (hg : Gl X x)
    (hm : X.mg x = some (.ref f)) (kp : PySem.W.keepIn X.K (.ref f) = true) (bnd : Binds X.K fd ps []) (pass : Passes CX X E)
    (ha : PA X (e :: es) t) (hdb : (x == ("__debug__" : Str)) = false := by decide)
    (he : starEach (e :: es) X.env = (false, eval e X.env) :: starEach es X.env := by rfl)
    (hpl : (backTo pos (starEach es X.env)).any (·.1) = false := by rfl) :
    PE X (.Call (.Name x p) (e :: es) [] pos) (tCall sp [] E t) := by
  refine ⟨?_⟩
  intro pins s σ H Q I h
  refine wpAny_Call_Name_kw (ld_glob I hg hm ?_ hdb)
  refine PySem.W.callWith_K (h₀ := X.base) I.ok.mod.kin kp (thn (ha.run pos pins s σ H _ I h) ?_) he hpl
  rintro us s1 ⟨vs, H1, I1, rel, q⟩
  rw [List.append_nil] at q
  have hl : us.length = ps.length := by
    rw [← rel.length]
    exact F.len _ _ _ _ q
  have bd := bnd s1 us I1.kIn (by rw [List.append_nil]; exact hl)
  rw [List.append_nil] at bd
  refine ⟨I1.kIn, wpAny_call (codeAny_mono (F.run X.A X.stack s1 H1 ⟨us, []⟩ us vs Q E hgd room I1.env0 bd rel q) ?_)⟩
  intro r s' hq
  cases r with
  | error z => exact pass pins σ H1 s1 z s' I1 hq
  | ok fl =>
    cases fl with
    | ret u => exact I1.after hq
    | next => exact hq.elim
    | brk => exact hq.elim
    | cont => exact hq.elim
end

/-! ### repr of data -/
section
variable {X : Cx}
/-- repr(x), x a tree of lists and tuples over None, bools, ints, texts: the text that the data itself has -/
def rRepr (K : PySem.W.Frag) : List V → Hp → VK → Prop := fun xs H Q =>
  ∃ x d, xs = [x] ∧ Dp K H x d ∧ d.showable = true ∧ d.hasDict = false ∧ d.depth ≤ 60 ∧ d.shown.length ≤ sizeLine ∧ Q (.str d.shown) H
theorem call_repr_ref (hgd : X.A.guards = some []) (hu : X.A.units + 64 < cLine) :
    CallR X (.builtin "repr") (fun xs H Q => ∃ a d, xs = [.ref a] ∧ Dp X.K H (.ref a) d ∧ d.showable = true ∧ d.hasDict = false ∧
      d.depth ≤ 60 ∧ d.shown.length ≤ sizeLine ∧ Q (.str d.shown) H) := by
  intro pins s σ H xs us Q I r h
  obtain ⟨a, d, rfl, hd, hs, hh, hz, hl, q⟩ := h
  obtain ⟨u, rfl, ru⟩ := vals1 r
  cases ru
  obtain ⟨as, rd⟩ := Dp.reads I d _ _ hd rfl
  refine repr_of_reads' rd hs (fun z => by rw [hh] at z; cases z) hgd (by omega) (fun b o e => e) ?_ hl
  intro h' u tk hk
  exact ⟨.str d.shown, H, I.kept hk, ⟨u, rfl⟩, q⟩
end
end RS

set_option Elab.async false
set_option linter.all false
set_option maxRecDepth 100000
namespace PySem
open AutoSeq1 (wpAny_loadPart')

/-! ### enumerate(t), t a tuple -/
theorem rs_meets_enum (l : Addr) (cs : Array Value) (n : Nat) (dct : Option Addr) (sl : Array (Option Value)) :
    Meets (Builtin.«enumerate.__new__» ⟨[.type "enumerate", .ref l], []⟩)
      (fun _ R s => s.heap.get? l = some { cls := .type "tuple", dict := dct, data := .seq cs n, slots := sl } ∧
        R (.ok (.ret (.ref (s.heap.push { cls := .type "tuple_iterator", data := .fields #[.ref l, .int 0 0] }).objs.size)))
          { s with heap := Heap.push (s.heap.push { cls := .type "tuple_iterator", data := .fields #[.ref l, .int 0 0] }) { cls := .type "enumerate", data := .fields #[.none, .bool false, .ref s.heap.objs.size, rawInt 0, .none, .none] } }) := by
  refine .of_wp ?_
  intro prog w A R s h
  obtain ⟨hp, g, d, tk, os⟩ := s
  obtain ⟨hl, h⟩ := h
  have sub := sub_enumerate
  have isT : Heap.IsTuple (Shared.heap ⟨hp, g, d, tk, os⟩) l cs := ⟨_, hl, rfl, n, rfl⟩
  wp_walk using wpAny_loadPart' hl
  refine wpAny_stack_any fun st => wpAny_pure ?_
  split
  · rename_i c _ _ _ _ _
    cases (c == Value.type "enumerate") <;>
      (wp_walk using wpAny_loadPart' hl, wpAny_pyIter_tuple isT
       exact ⟨_, rfl, h⟩)
  · wp_walk using wpAny_loadPart' hl, wpAny_pyIter_tuple isT
    exact ⟨_, rfl, h⟩

section
variable {prog : Program} {w : World} {A : Around} {E : Value → Shared → Prop} {s : Shared}
theorem rs_call_enum {l : Addr} {cs : Array Value} {Q : Value → Shared → Prop} (isT : s.heap.IsTuple l cs)
    (h : ∀ h', IsEnum h' (s.heap.objs.size + 1) s.heap.objs.size 0 .none → h'.IsTupleIter s.heap.objs.size l 0 →
      (∀ b o, s.heap.get? b = some o → h'.get? b = some o) → Q (.ref (s.heap.objs.size + 1)) { s with heap := h' }) :
    wpAny (model prog w) A (call (.type "enumerate") [.ref l]) Q E s := by
  obtain ⟨⟨c, dct, dt, sl⟩, hl, hc, n, hd⟩ := isT
  obtain rfl : c = .type "tuple" := hc
  obtain rfl : dt = .seq cs n := hd
  refine callType_new F.called_enumerate (by decide) (F.typeCall_enumerate_1 _) (F.newCall_enumerate_1 _)
    (fun obj => F.args_object_init_2 obj _) F.entry_enumerate_new (rs_meets_enum l cs n dct sl) ⟨hl, ?_⟩
  generalize ho : ({ cls := .type "tuple_iterator", data := .fields #[.ref l, .int 0 0] } : Obj) = oi
  have hz : (s.heap.push oi).objs.size = s.heap.objs.size + 1 := Heap.size_push ..
  show _ ∧ _
  rw [hz]
  have he : IsEnum ((s.heap.push oi).push
      { cls := .type "enumerate", data := .fields #[.none, .bool false, .ref s.heap.objs.size, rawInt 0, .none, .none] })
      (s.heap.objs.size + 1) s.heap.objs.size 0 .none := by
    rw [← hz]
    exact Heap.get?_push_size _ rfl
  subst ho
  exact ⟨⟨_, he, rfl⟩, h _ he ⟨_, Heap.get?_push_of_some _ (Heap.get?_push_size _ rfl), rfl, rfl⟩
    fun b o x => Heap.get?_push_of_some _ (Heap.get?_push_of_some _ x)⟩
end
end PySem

namespace RS
open PySem PySem.Spec PyProof.Rows L2
/-- the tuple at a, each item in a new pair with its place -/
def ItE (K : PySem.W.Frag) (a : Addr) : It where
  go := fun i H => ∃ (xs : List V) (x : V), SqT K H a xs ∧ xs[i]? = some x
  yld := fun i H v H' => ∃ T x, v = .ref T ∧ H T = none ∧ H' = upd H T (.tup [.int (i : Nat), x]) ∧ ∀ xs, SqT K H a xs → xs[i]? = some x
  stop := fun i H => ∃ xs : List V, SqT K H a xs ∧ xs.length ≤ i

theorem turn_enumT {P : Program} {w : World} {K : PySem.W.Frag} {elts : List Expr} {kk : Nat} {tpos : Pos} (a e it : Addr) :
    Turn P w K (.Tuple elts kk tpos) (ItE K a) [e, it] e
      (fun i h => (∃ old, IsEnum h e it ((i : Nat) : Int) old) ∧ h.IsTupleIter it a i ∧ e ≠ it) where
  mem := by simp
  obj := by
    intro i h st b hb
    obtain ⟨⟨old, he⟩, ⟨o, ho, hc, hd⟩, _⟩ := st
    have e' : b = e ∨ b = it := by simpa using hb
    rcases e' with rfl | rfl
    · exact ⟨_, he, fun v q => nomatch q⟩
    · exact ⟨o, ho, fun v q => by rw [hd] at q; cases q⟩
  keep := by
    intro i h h' st k
    obtain ⟨⟨old, he⟩, hi, hne⟩ := st
    exact ⟨⟨old, k e (by simp) _ he⟩, hi.at fun o q => k it (by simp) o q, hne⟩
  item := by
    intro X hP hw hK hc i pins s σ H E I hf st hg
    subst hP hw hK
    obtain ⟨⟨old, he⟩, hit, hne⟩ := st
    obtain ⟨xs, x, hq, hx⟩ := hg
    obtain ⟨its, rv, tp, hz⟩ := I.tuple hq
    obtain ⟨u, hu, ru⟩ := rv.get hx
    have isT : s.heap.IsTuple a its.toArray := tp
    have hel : e < s.heap.objs.size := Heap.lt_size he
    have hil : it < s.heap.objs.size := by
      obtain ⟨_, q, _⟩ := hit
      exact Heap.lt_size q
    have hta : a ≠ it := by
      rintro rfl
      obtain ⟨o1, q1, c1, _⟩ := isT
      obtain ⟨o2, q2, c2, _⟩ := hit
      rw [q1] at q2
      cases q2
      rw [c1] at c2
      injection c2 with c3
      exact absurd c3 (by decide)
    have hea : e ≠ a := by
      rintro rfl
      obtain ⟨o1, q1, c1, _⟩ := isT
      rw [he] at q1
      cases q1
      injection c1 with c3
      exact absurd c3 (by decide)
    have D := Draws.tuple (prog := X.prog) (w := X.w) (A := X.A.in1) (show X.A.in1.handled = none from I.ok.hd hc) it a hta its.toArray
    have hlt : i < its.toArray.size := by
      have := (List.getElem?_eq_some_iff.mp hu).1
      simpa using this
    refine wpAny_pyNext_enum_itemD D he ⟨hit, isT⟩ hlt hne (by simp; exact ⟨hne, hea⟩) ?_
    intro x' h' tk hx' ho st' hT hsz hk
    have ex : x' = u := by
      have : its[i]? = some x' := by simpa using hx'
      rw [hu] at this
      exact (Option.some.inj this).symm
    subst ex
    refine ⟨_, rfl, wpAny_letOwnedTupleGo_enum (s := { s with heap := h', toks := tk + 1 }) ho ?_⟩
    intro h'' he' sb
    have hT2 : h''.get? s.heap.objs.size = some { cls := .type "tuple", data := .seq #[.int i tk, x'] } := (sb.2 _ (Nat.ne_of_gt hel)).trans hT
    have new : ObjOk X.prog X.w (upd H s.heap.objs.size (.tup [.int (i : Nat), x])) h'' s.heap.objs.size (.tup [.int (i : Nat), x]) :=
      ⟨by show 2 ≤ sizeLine; decide, [.int i tk, x'], .cons ⟨_, rfl⟩ (.cons ru .nil), ⟨_, hT2, rfl, _, rfl⟩⟩
    have I1 : Inv X pins σ (upd H s.heap.objs.size (.tup [.int (i : Nat), x])) { s with heap := h'', toks := tk + 1 } := by
      refine I.turnedNew (ch := [e, it]) ?_ hf (Nat.le_refl _) new
      intro b ob hb q
      have b1 : b ≠ e := fun z => hb (by simp [z])
      have b2 : b ≠ it := fun z => hb (by simp [z])
      exact (sb.2 b b1).trans (hk b ob b1 b2 q)
    refine ⟨.ref s.heap.objs.size, _, I1, rfl, ⟨_, x, rfl, I.hok.fresh (Nat.le_refl _), rfl, fun ys hy => by rw [I.tuple_inj hy hq]; exact hx⟩, ⟨⟨x', ?_⟩, ?_, hne⟩, ?_⟩
    · have e1 : ((i + 1 : Nat) : Int) = (i : Int) + 1 := by omega
      rw [e1]
      exact he'
    · exact st'.1.at fun o q => (sb.2 it (Ne.symm hne)).trans q
    · intro b hb
      have hb' : b ≠ s.heap.objs.size := by
        have e' : b = e ∨ b = it := by simpa using hb
        rcases e' with rfl | rfl
        · exact Nat.ne_of_lt hel
        · exact Nat.ne_of_lt hil
      rw [upd_ne hb']
      exact (hf b hb).1
  done := by
    intro X hP hw hK hc i pins s σ H E I hf st hg
    subst hP hw hK
    obtain ⟨⟨old, he⟩, hit, hne⟩ := st
    obtain ⟨xs, hq, hx⟩ := hg
    obtain ⟨its, rv, tp, hz⟩ := I.tuple hq
    obtain ⟨f0, f1, f2, f3, f4, f5⟩ := hf it (by simp)
    have isT : s.heap.IsTuple a its.toArray := tp
    have hta : a ≠ it := by
      rintro rfl
      obtain ⟨o1, q1, c1, _⟩ := isT
      obtain ⟨o2, q2, c2, _⟩ := hit
      rw [q1] at q2
      cases q2
      rw [c1] at c2
      injection c2 with c3
      exact absurd c3 (by decide)
    have hl := rv.length
    have hT : s.TypeIs (.ref e) "enumerate" := ⟨_, he, rfl⟩
    unfold pyNext
    refine wpAny_bind (wpAny_attempt (wpAny_callSpecial?_slot (name := Str.ofString "__next__") hT F.slot_enumerate_next
      (wpAny_call_entry F.slot_enumerate_next hT F.entry_enumerate_next ?_ (F.args_enumerate_next_1 _))))
    show wpAny _ _ (field (.ref e) 2 >>= _) _ _ _
    refine wpAny_bind (wpAny_field he rfl (x := .ref it) rfl ?_)
    refine wpAny_bind (wpAny_nextOf_tuple_end (show X.A.in1.handled = none from I.ok.hd hc) hit isT (by simp; omega) fun h' x he' hx' => ?_)
    obtain ⟨o, ho, hcl⟩ := hx'
    refine wpAny_bind (wpAny_isInstance (T := "StopIteration") (b := true) ⟨o, ho, hcl⟩ isSubtype_stop ?_)
    exact wpAny_pure ⟨rfl, I.turned (t' := s.toks) (fun b o hb q => he' b o hb q) f0 f1 f3 f4 f5⟩
  self := by
    intro A i s Q E st h
    obtain ⟨⟨_, he⟩, _⟩ := st
    exact wpAny_pyIter_enum he h

def iEnumT (K : PySem.W.Frag) (ta : TA) : TI := fun σ H R => ta σ H fun vs H1 => ∃ a xs, vs = [.ref a] ∧ SqT K H1 a xs ∧ R (ItE K a) H1
theorem pi_enumT {X : Cx} {e : Expr} {ta : TA} {p pos tpos : Pos} {elts : List Expr} {kk : Nat} (hg : Gl X "enumerate")
    (hm : X.mg "enumerate" = none) (ha : PA X [e] ta) (hs : starEach [e] X.env = [(false, eval e X.env)] := by rfl) :
    PI X (.Tuple elts kk tpos) (.Call (.Name "enumerate" p) [e] [] pos) (iEnumT X.K ta) := by
  refine ⟨?_⟩
  intro pins s σ H R I h
  refine Call_ (ld_blt I hg hm boot_enumerate (PyProof.Rows.callWith_type1 (thn (ha.run pos pins s σ H _ I h) ?_) hs rfl))
  rintro us s1 ⟨vs, H1, I1, r1, a, xs, ex, hq, q⟩
  subst ex
  obtain ⟨u, rfl, ru⟩ := vals1 r1
  cases ru
  obtain ⟨its, rv, tp, hz⟩ := I1.tuple hq
  refine rs_call_enum (show s1.heap.IsTuple a its.toArray from tp) fun h' he hit hk => wpAny_pyIter_enum he ?_
  have I2 : Inv X pins σ H1 { s1 with heap := h' } := I1.kept (t' := s1.toks) hk
  refine ⟨s1.heap.objs.size + 1, [s1.heap.objs.size + 1, s1.heap.objs.size], _, _, H1, rfl, I2,
    turn_enumT a (s1.heap.objs.size + 1) s1.heap.objs.size, ⟨⟨.none, he⟩, hit, Nat.succ_ne_self _⟩, ?_, q⟩
  intro b hb
  have hle : s1.heap.objs.size ≤ b := by
    have e' : b = s1.heap.objs.size + 1 ∨ b = s1.heap.objs.size := by simpa using hb
    rcases e' with rfl | rfl
    · exact Nat.le_add_right _ _
    · exact Nat.le_refl _
  exact I1.fpOk hle (I1.hok.fresh hle)
end RS

set_option Elab.async false
set_option linter.all false
set_option maxRecDepth 100000
namespace RS
open PySem PySem.Spec PyProof.Rows L2

/-! ### how long the text of data may be -/
mutual
def cost : PyData → Nat
  | .none => 4
  | .bool _ => 5
  | .int _ => 1921
  | .str x => (reprText x).length
  | .list xs => costAll xs + 3
  | .tuple xs => costAll xs + 3
  | .dict _ => 0
def costAll : List PyData → Nat
  | [] => 0
  | x :: xs => cost x + 2 + costAll xs
end

theorem textFrom_le : ∀ (ts : List Str) (k : Nat) (acc : Str), (textFrom k acc ts).length ≤ acc.length + piled ts
  | [], k, acc => Nat.le_add_right _ _
  | t :: r, k, acc => by
    have h := textFrom_le r (k + 1) (acc ++ (if k > 0 then ", " else "" : String) ++ t)
    have e : (((if k > 0 then ", " else "" : String) : Str)).length ≤ 2 := by split <;> decide +kernel
    rw [strLen_append, strLen_append] at h
    rw [piled_cons]
    show (textFrom (k + 1) (acc ++ (if k > 0 then ", " else "" : String) ++ t) r).length ≤ _
    omega
theorem listText_le (ts : List Str) : (listText ts).length ≤ piled ts + 2 := by
  unfold listText
  have h := textFrom_le ts 0 "["
  have e1 : ((("[" : String) : Str)).length = 1 := rfl
  have e2 : ((("]" : String) : Str)).length = 1 := rfl
  rw [strLen_append]
  omega
theorem tupleText_le (ts : List Str) : (tupleText ts).length ≤ piled ts + 3 := by
  have e3 : (((if ts.length == 1 then ",)" else ")" : String) : Str)).length ≤ 2 := by split <;> decide +kernel
  have e1 : ((("(" : String) : Str)).length = 1 := rfl
  unfold tupleText
  rw [strLen_append, strLen_append, e1]
  by_cases h : ts = []
  · subst h
    have : (Str.join ", " ([] : List Str)).length = 0 := rfl
    omega
  · have := join_length_add ts h
    omega
mutual
theorem shown_le : ∀ d : PyData, d.showable = true → d.hasDict = false → d.shown.length ≤ cost d
  | .none, _, _ => by simp only [PyData.shown, cost]; decide +kernel
  | .bool b, _, _ => by
    cases b <;> (simp only [PyData.shown, cost]; decide +kernel)
  | .int i, h, _ => by
    have hi : i.natAbs.log2 < 1920 := by simpa [PyData.showable] using h
    simp only [PyData.shown, cost]
    rw [PySem.ofString_length]
    exact int_text_length_le (k := 1920) (by decide) hi
  | .str x, _, _ => by simp only [PyData.shown, cost]; exact Nat.le_refl _
  | .list xs, h, n => by
    have h1 := shownAll_le xs (by simpa [PyData.showable] using h) (by simpa [PyData.hasDict] using n)
    have h2 := listText_le (PyData.shownAll xs)
    simp only [PyData.shown, cost]
    omega
  | .tuple xs, h, n => by
    have h1 := shownAll_le xs (by simpa [PyData.showable] using h) (by simpa [PyData.hasDict] using n)
    have h2 := tupleText_le (PyData.shownAll xs)
    simp only [PyData.shown, cost]
    omega
  | .dict _, _, n => by simp [PyData.hasDict] at n
theorem shownAll_le : ∀ ds : List PyData, PyData.showableAll ds = true → PyData.hasDictAll ds = false → piled (PyData.shownAll ds) ≤ costAll ds
  | [], _, _ => Nat.le_refl _
  | d :: ds, h, n => by
    simp only [PyData.showableAll, Bool.and_eq_true] at h
    simp only [PyData.hasDictAll, Bool.or_eq_false_iff] at n
    have h1 := shown_le d h.1 n.1
    have h2 := shownAll_le ds h.2 n.2
    simp only [PyData.shownAll, piled_cons, costAll]
    omega
end

/-- data whose repr is asked -/
structure Fine (d : PyData) : Prop where
  sh : d.showable = true
  nd : d.hasDict = false
  dp : d.depth ≤ 60
  sz : cost d ≤ sizeLine

section
variable {X : Cx}
def rReprD (K : PySem.W.Frag) : List V → Hp → VK → Prop := fun xs H Q => ∃ x d, xs = [x] ∧ Dp K H x d ∧ Fine d ∧ Q (.str d.shown) H
theorem call_repr (hgd : X.A.guards = some []) (hu : X.A.units + 64 < cLine) : CallR X (.builtin "repr") (rReprD X.K) := by
  intro pins s σ H xs us Q I r h
  obtain ⟨x, d, rfl, hd, F, q⟩ := h
  obtain ⟨u, rfl, ru⟩ := vals1 r
  have hz : d.shown.length ≤ sizeLine := Nat.le_trans (shown_le d F.sh F.nd) F.sz
  cases hd with
  | non =>
    cases ru
    exact PySem.P.repr_of_none ⟨.str _, H, I.tok _, ⟨_, rfl⟩, by simpa only [PyData.shown] using q⟩
  | bl b =>
    cases ru
    exact PySem.P.repr_of_bool ⟨.str _, H, I.tok _, ⟨_, rfl⟩, by simpa only [PyData.shown] using q⟩
  | int i =>
    obtain ⟨t, rfl⟩ := ru
    have hi : i.natAbs.log2 < 1920 := by simpa [PyData.showable] using F.sh
    exact PySem.P.repr_of_int hi ⟨.str _, H, I.tok _, ⟨_, rfl⟩, by simpa only [PyData.shown] using q⟩
  | str z =>
    obtain ⟨t, rfl⟩ := ru
    have hz' : (reprText z).length ≤ sizeLine := by simpa only [PyData.shown] using hz
    exact PySem.P.repr_of_str ⟨.str _, H, I.tok _, ⟨_, rfl⟩, by simpa only [PyData.shown] using q⟩ hz'
  | lst a b =>
    exact call_repr_ref hgd hu pins s σ H _ _ Q I r ⟨_, _, rfl, .lst a b, F.sh, F.nd, F.dp, hz, q⟩
  | tup a b =>
    exact call_repr_ref hgd hu pins s σ H _ _ Q I r ⟨_, _, rfl, .tup a b, F.sh, F.nd, F.dp, hz, q⟩
end

/-! ### data of ints -/
theorem log_of_abs {i : Int} {B : Nat} (hB : 0 < B) (h : i.natAbs < 2 ^ B) : i.natAbs.log2 < B := by
  by_cases h0 : i.natAbs = 0
  · rw [h0]
    exact hB
  · exact (Nat.log2_lt h0).mpr h
def dInts (ns : List Int) : List PyData := ns.map .int
theorem dInts_show : ∀ ns : List Int, (∀ n ∈ ns, n.natAbs < 2 ^ 1000) → PyData.showableAll (dInts ns) = true
  | [], _ => rfl
  | n :: ns, h => by
    have h1 : n.natAbs.log2 < 1920 := Nat.lt_of_lt_of_le (log_of_abs (by decide) (h n List.mem_cons_self)) (by decide)
    have h2 := dInts_show ns fun m hm => h m (List.mem_cons_of_mem _ hm)
    show (PyData.showable (.int n) && PyData.showableAll (dInts ns)) = true
    rw [h2, Bool.and_true]
    simp only [PyData.showable]
    exact decide_eq_true h1
theorem dInts_nodict : ∀ ns : List Int, PyData.hasDictAll (dInts ns) = false
  | [] => rfl
  | n :: ns => by
    show (PyData.hasDict (.int n) || PyData.hasDictAll (dInts ns)) = false
    rw [dInts_nodict ns]
    rfl
theorem dInts_depth : ∀ ns : List Int, PyData.depthAll (dInts ns) = 0
  | [] => rfl
  | n :: ns => by
    show max (PyData.depth (.int n)) (PyData.depthAll (dInts ns)) = 0
    rw [dInts_depth ns]
    rfl
theorem dInts_cost : ∀ ns : List Int, costAll (dInts ns) = 1923 * ns.length
  | [] => rfl
  | n :: ns => by
    show 1921 + 2 + costAll (dInts ns) = _
    rw [dInts_cost ns, List.length_cons]
    omega
theorem dpInts {K : PySem.W.Frag} {H : Hp} : ∀ ns : List Int, DpAll K H (ns.map V.int) (dInts ns)
  | [] => .nil
  | n :: ns => .cons (.int n) (dpInts ns)
theorem fine_tup {ns : List Int} (h : ∀ n ∈ ns, n.natAbs < 2 ^ 1000) (hl : ns.length ≤ 8000) : Fine (.tuple (dInts ns)) := by
  refine ⟨by simp only [PyData.showable]; exact dInts_show ns h, by simp only [PyData.hasDict]; exact dInts_nodict ns, ?_, ?_⟩
  · simp only [PyData.depth]
    rw [dInts_depth]
    decide
  · simp only [cost]
    rw [dInts_cost]
    have : 1923 * 8000 + 3 ≤ sizeLine := by decide
    omega
theorem fine_lst {ns : List Int} (h : ∀ n ∈ ns, n.natAbs < 2 ^ 1000) (hl : ns.length ≤ 8000) : Fine (.list (dInts ns)) := by
  refine ⟨by simp only [PyData.showable]; exact dInts_show ns h, by simp only [PyData.hasDict]; exact dInts_nodict ns, ?_, ?_⟩
  · simp only [PyData.depth]
    rw [dInts_depth]
    decide
  · simp only [cost]
    rw [dInts_cost]
    have : 1923 * 8000 + 3 ≤ sizeLine := by decide
    omega

/-! ### frames: what stays of the heap -/
/-- all but two cells (a deck and its cards) stays -/
def Keep (d l : Addr) (H H' : Hp) : Prop := ∀ b o, b ≠ d → b ≠ l → H b = some o → H' b = some o
theorem Keep.refl {d l : Addr} {H : Hp} : Keep d l H H := fun _ _ _ _ h => h
theorem Keep.trans {d l : Addr} {H H1 H2 : Hp} (a : Keep d l H H1) (b : Keep d l H1 H2) : Keep d l H H2 := fun c o h1 h2 h => b c o h1 h2 (a c o h1 h2 h)
theorem Keep.same {d l : Addr} {H H1 : Hp} (a : Same H H1) : Keep d l H H1 := fun c o _ _ h => a c o h
theorem same_upd {H : Hp} {p : Addr} {o : HO} (h : H p = none) : Same H (upd H p o) := by
  intro b x e
  rw [upd_ne (ne_of_none e h)]
  exact e
theorem Same.tupq {K : PySem.W.Frag} {H H' : Hp} {a : Addr} {xs : List V} (e : Same H H') (h : SqT K H a xs) : SqT K H' a xs := by
  rcases h with (h | ⟨o, h⟩) | h
  · exact .inl (.inl (e _ _ h))
  · exact .inl (.inr ⟨o, e _ _ h⟩)
  · exact .inr h
end RS

set_option Elab.async false
set_option linter.all false
set_option maxRecDepth 100000
namespace RS
open PySem PySem.Spec PyProof.Rows L2
/-! ### slices -/
theorem cut_to (xs : List V) (k : Nat) : cutV xs none (some (k : Int)) = xs.take k := by
  unfold cutV
  rw [HT.sIx_none, HT.sIx_nat, Nat.sub_zero, List.drop_zero]
  by_cases h : k ≤ xs.length
  · rw [Nat.min_eq_left h]
  · rw [Nat.min_eq_right (by omega), List.take_length, List.take_of_length_le (by omega)]
theorem cut_from (xs : List V) (k : Nat) : cutV xs (some (k : Int)) none = xs.drop k := by
  unfold cutV
  rw [HT.sIx_none, HT.sIx_nat]
  by_cases h : k ≤ xs.length
  · rw [Nat.min_eq_left h, List.take_of_length_le]
    rw [List.length_drop]
    omega
  · rw [Nat.min_eq_right (by omega), Nat.sub_self, List.take_zero, List.drop_of_length_le (by omega)]

/-! ### items -/
theorem get_map_int {ns : List Int} {i : Nat} {v : V} (h : (ns.map V.int)[i]? = some v) : ∃ n, ns[i]? = some n ∧ v = .int n := by
  rw [List.getElem?_map] at h
  cases e : ns[i]? with
  | none =>
    rw [e] at h
    cases h
  | some n =>
    rw [e] at h
    exact ⟨n, rfl, (Option.some.inj h).symm⟩
theorem map_get {ns : List Int} {i : Nat} {n : Int} (h : ns[i]? = some n) : (ns.map V.int)[i]? = some (.int n) := by
  rw [List.getElem?_map, h]
  rfl
theorem atI_of {ns : List Int} {i : Int} {j : Nat} {n : Int} (e : i = (j : Int)) (h : ns[j]? = some n) : atI (ns.map V.int) i = some (.int n) := by
  subst e
  exact atI_nat (map_get h)
/-- the item before a place, around the ring -/
def prevOf (ns : List Int) (i : Nat) : Int := ns.getD (if i = 0 then ns.length - 1 else i - 1) 0
theorem atI_back {ns : List Int} {i : Nat} (hi : i < ns.length) : atI (ns.map V.int) ((i : Int) - 1) = some (.int (prevOf ns i)) := by
  have hl : (ns.map V.int).length = ns.length := List.length_map ..
  unfold atI ixN
  rw [hl]
  by_cases h0 : i = 0
  · subst h0
    rw [if_neg (by omega), if_pos (by omega)]
    have e : ((((0 : Nat) : Int) - 1) + (ns.length : Int)).toNat = ns.length - 1 := by omega
    rw [e]
    show (ns.map V.int)[ns.length - 1]? = _
    unfold prevOf
    rw [if_pos rfl, List.getElem?_map, List.getElem?_eq_getElem (by omega), List.getD_eq_getElem?_getD, List.getElem?_eq_getElem (by omega)]
    rfl
  · rw [if_pos (by omega), if_pos (by omega)]
    have e : ((i : Int) - 1).toNat = i - 1 := by omega
    rw [e]
    show (ns.map V.int)[i - 1]? = _
    unfold prevOf
    rw [if_neg h0, List.getElem?_map, List.getElem?_eq_getElem (by omega), List.getD_eq_getElem?_getD, List.getElem?_eq_getElem (by omega)]
    rfl
theorem take_succ_map {ns : List Int} {i : Nat} {n : Int} (h : ns[i]? = some n) : ((ns.take i).map V.int) ++ [V.int n] = (ns.take (i + 1)).map V.int := by
  rw [List.take_add_one, h, List.map_append]
  rfl

/-! ### walks -/
def YPairT (xs : List V) : Nat → Hp → V → Hp → Prop := fun i H v H' => ∃ T x, v = .ref T ∧ H T = none ∧ H' = upd H T (.tup [.int (i : Nat), x]) ∧ xs[i]? = some x
theorem walk_enumT {K : PySem.W.Frag} {a : Addr} {xs : List V} : Walk (ItE K a) xs.length (fun H => SqT K H a xs) (YPairT xs) where
  goes := fun i H hi h => ⟨xs, xs[i], h, List.getElem?_eq_getElem hi⟩
  stops := fun H h => ⟨xs, h, Nat.le_refl _⟩
  yields := fun i H x H' hi h y => by
    obtain ⟨T, z, e1, e2, e3, e4⟩ := y
    exact ⟨T, z, e1, e2, e3, e4 xs h⟩

/-! ### the deck of a law's draws -/
structure Deck (H : Hp) (d l : Addr) (n : Int) : Prop where
  top : H d = some (.lst [.ref l, .int n])
  cards : ∃ cs : List Int, H l = some (.lst (cs.map V.int)) ∧ (∀ c ∈ cs, 0 ≤ c) ∧ cs.length ≤ 63
  ne : l ≠ d
  n0 : 0 ≤ n
theorem Deck.keep {H H' : Hp} {d l : Addr} {n : Int} (D : Deck H d l n) (h1 : H' d = H d) (h2 : H' l = H l) : Deck H' d l n := by
  refine ⟨h1.trans D.top, ?_, D.ne, D.n0⟩
  obtain ⟨cs, a, b, c⟩ := D.cards
  exact ⟨cs, h2.trans a, b, c⟩
theorem Deck.same {H H' : Hp} {d l : Addr} {n : Int} (D : Deck H d l n) (s : Same H H') : Deck H' d l n := by
  refine ⟨s _ _ D.top, ?_, D.ne, D.n0⟩
  obtain ⟨cs, a, b, c⟩ := D.cards
  exact ⟨cs, s _ _ a, b, c⟩
/-- a tuple that stands is none of the deck's two lists -/
theorem Deck.tup_ne {H : Hp} {d l a : Addr} {n : Int} (D : Deck H d l n) {xs : List V} (h : H a = some (.tup xs)) : a ≠ d ∧ a ≠ l := by
  obtain ⟨cs, c1, _⟩ := D.cards
  constructor
  · rintro rfl
    rw [D.top] at h
    cases h
  · rintro rfl
    rw [c1] at h
    cases h
theorem Deck.free_ne {H : Hp} {d l a : Addr} {n : Int} (D : Deck H d l n) (h : H a = none) : a ≠ d ∧ a ≠ l := by
  obtain ⟨cs, c1, _⟩ := D.cards
  constructor
  · rintro rfl
    rw [D.top] at h
    cases h
  · rintro rfl
    rw [c1] at h
    cases h
theorem Keep.free {d l p : Addr} {n : Int} {H H' : Hp} (k : Keep d l H H') (D : Deck H' d l n) (h : H' p = none) : H p = none := by
  obtain ⟨h1, h2⟩ := D.free_ne h
  cases q : H p with
  | none => rfl
  | some o =>
    rw [k p o h1 h2 q] at h
    cases h
theorem Keep.tup {d l p : Addr} {n : Int} {H H' : Hp} (k : Keep d l H H') (D : Deck H d l n) {xs : List V} (h : H p = some (.tup xs)) : H' p = some (.tup xs) :=
  k p _ (D.tup_ne h).1 (D.tup_ne h).2 h
/-- heights -/
def Ht (h : Int) : Prop := -1000000000 ≤ h ∧ h ≤ 1000000000
theorem Ht.abs {h : Int} (H : Ht h) : h.natAbs < 2 ^ 1000 := by
  have h1 : h.natAbs ≤ 1000000000 := by
    have := H.1
    have := H.2
    omega
  exact Nat.lt_of_le_of_lt h1 (by decide +kernel)
end RS
namespace RS
open PySem PySem.Spec PyProof.Rows L2
/-! ### movement -/
def absI (x : Int) : Int := if x < 0 then -x else x
def stepsOf (hs : List Int) : List Int := (List.range hs.length).map fun i => absI (hs.getD i 0 - prevOf hs i)
theorem steps_len (hs : List Int) : (stepsOf hs).length = hs.length := by
  unfold stepsOf
  rw [List.length_map, List.length_range]
theorem steps_get {hs : List Int} {i : Nat} {c : Int} (h : hs[i]? = some c) : (stepsOf hs)[i]? = some (absI (c - prevOf hs i)) := by
  have hi : i < hs.length := (List.getElem?_eq_some_iff.mp h).1
  unfold stepsOf
  rw [List.getElem?_map, List.getElem?_range hi]
  show some (absI (hs.getD i 0 - prevOf hs i)) = _
  rw [List.getD_eq_getElem?_getD, h]
  rfl
theorem prev_succ {hs : List Int} {i : Nat} {c : Int} (h : hs[i]? = some c) : prevOf hs (i + 1) = c := by
  unfold prevOf
  rw [if_neg (by omega), Nat.add_sub_cancel, List.getD_eq_getElem?_getD, h]
  rfl
theorem sum_take_succ {ns : List Int} {i : Nat} {c : Int} (h : ns[i]? = some c) : (ns.take (i + 1)).sum = (ns.take i).sum + c := by
  rw [List.take_add_one, h, List.sum_append]
  show _ + (c + 0) = _
  omega
theorem absI_max (a b : Int) : (if b - a > a - b then b - a else a - b) = absI (a - b) := by
  unfold absI
  split <;> split <;> omega
end RS
namespace RS
open PySem PySem.Spec PyProof.Rows L2
/-! ### rules at a written part that is named (within comprehensions) -/
theorem ixT {X : Cx} (K : PySem.W.Frag) (h : X.K = K := by rfl) : IxR X (rIxT K) := h ▸ ix_tup
theorem ixL {X : Cx} (K : PySem.W.Frag) (h : X.K = K := by rfl) : IxR X (rIxL K) := h ▸ ix_list
end RS
namespace RS
open PySem PySem.Spec PyProof.Rows L2
/-! ### slices and sums of tuples, whether the same object comes back or a new one -/
def rSlW (K : PySem.W.Frag) : V → Option Int → Option Int → Hp → VK → Prop := fun x lo hi H Q => ∃ a xs, x = .ref a ∧ SqT K H a xs ∧
  ∀ p H', Same H H' → SqT K H' p (cutV xs lo hi) → Q (.ref p) H'
theorem cut_whole {xs : List V} {lo hi : Option Int} (h : HT.sIx xs.length 0 lo = 0 ∧ HT.sIx xs.length xs.length hi = xs.length) : cutV xs lo hi = xs := by
  unfold cutV
  rw [h.1, h.2, List.drop_zero, Nat.sub_zero, List.take_length]
theorem sl_tupW {X : Cx} : SlR X (rSlW X.K) := by
  intro pins s σ H x v vl vu lo hi sl Q I rx hs pl pu h
  obtain ⟨a, xs, hx, hq, q⟩ := h
  refine sl_tupA pins s σ H x v vl vu lo hi sl Q I rx hs pl pu ⟨a, xs, hx, hq, fun hw => q a H (Same.refl H) ?_, fun _ p np => q p _ (same_upd np) (.inl (.inl upd_same))⟩
  rw [cut_whole hw]
  exact hq
def rCatW (K : PySem.W.Frag) : R2 := fun x y H Q => ∃ a b xs ys, x = .ref a ∧ y = .ref b ∧ SqT K H a xs ∧ SqT K H b ys ∧ xs.length + ys.length ≤ sizeLine ∧
  ∀ p H', Same H H' → SqT K H' p (xs ++ ys) → Q (.ref p) H'
theorem op_catW {X : Cx} : OpR X (binaryOp .Add) (rCatW X.K) := by
  intro pins s σ H x y v u Q I rx ry h
  obtain ⟨a, b, xs, ys, hx, hy, h1, h2, hz, q⟩ := h
  refine op_catA pins s σ H x y v u Q I rx ry ⟨a, b, xs, ys, hx, hy, h1, h2, hz, ?_, ?_, ?_⟩
  · intro e
    subst e
    exact q b H (Same.refl H) h2
  · intro _ e
    subst e
    refine q a H (Same.refl H) ?_
    rw [List.append_nil]
    exact h1
  · intro _ _ p np
    exact q p _ (same_upd np) (.inl (.inl upd_same))

/-! ### bounds -/
theorem prev_mem {hs : List Int} {i : Nat} (h : 1 ≤ hs.length) (hi : i ≤ hs.length) : prevOf hs i ∈ hs := by
  unfold prevOf
  have hj : (if i = 0 then hs.length - 1 else i - 1) < hs.length := by split <;> omega
  rw [List.getD_eq_getElem?_getD, List.getElem?_eq_getElem hj]
  exact List.getElem_mem hj
theorem steps_bound {hs : List Int} (hh : ∀ h ∈ hs, Ht h) : ∀ x ∈ stepsOf hs, 0 ≤ x ∧ x ≤ 2000000000 := by
  intro x hx
  unfold stepsOf at hx
  obtain ⟨i, hi, rfl⟩ := List.mem_map.mp hx
  have hi' := List.mem_range.mp hi
  have h1 := hh _ (prev_mem (hs := hs) (i := i) (by omega) (by omega))
  have h2 : Ht (hs.getD i 0) := by
    rw [List.getD_eq_getElem?_getD, List.getElem?_eq_getElem hi']
    exact hh _ (List.getElem_mem hi')
  obtain ⟨a1, a2⟩ := h1
  obtain ⟨b1, b2⟩ := h2
  unfold absI
  split <;> omega
theorem sum_bound {B : Int} : ∀ ns : List Int, (∀ x ∈ ns, 0 ≤ x ∧ x ≤ B) → 0 ≤ ns.sum ∧ ns.sum ≤ B * (ns.length : Int)
  | [], _ => by
    rw [List.sum_nil, List.length_nil]
    exact ⟨Int.le_refl _, by rw [Int.natCast_zero, Int.mul_zero]; exact Int.le_refl _⟩
  | n :: ns, h => by
    obtain ⟨a, b⟩ := sum_bound ns fun x hx => h x (List.mem_cons_of_mem _ hx)
    obtain ⟨c, d⟩ := h n List.mem_cons_self
    rw [List.sum_cons, List.length_cons, Int.natCast_succ, Int.mul_add, Int.mul_one]
    omega
theorem big_of {x : Int} (h : -1000000000000 ≤ x ∧ x ≤ 1000000000000) : x.natAbs < 2 ^ 1000 := by
  have h1 : x.natAbs ≤ 1000000000000 := by omega
  exact Nat.lt_of_le_of_lt h1 (by decide +kernel)
theorem steps_one (h : Int) : (stepsOf [h]).sum = 0 := by
  show absI (h - h) + 0 = 0
  rw [Int.sub_self]
  rfl
theorem steps_five (h : Int) : (stepsOf [h, h, h, h, h]).sum = 0 := by
  show absI (h - h) + (absI (h - h) + (absI (h - h) + (absI (h - h) + (absI (h - h) + 0)))) = 0
  rw [Int.sub_self]
  rfl
theorem steps_two (a b : Int) : (stepsOf [a, b]).sum = 2 * absI (a - b) := by
  show absI (a - b) + (absI (b - a) + 0) = _
  unfold absI
  split <;> split <;> omega
end RS

set_option Elab.async false
set_option linter.all false
set_option maxRecDepth 100000
namespace RS
open PySem PySem.Spec PyProof.Rows L2
open AutoSeq1 (wpAny_loadPart')
/-! ### t * k of a tuple, k any small number from 0 on -/
theorem mul_same (l : Addr) (cs : Array Value) (n : Nat) (dd : Option Addr) (sl : Array (Option Value)) (x : Int) (u : Tok)
    (c0 : (decide (x < -(2 ^ 63)) || decide (x ≥ 2 ^ 63)) = false) (c1 : (cs.isEmpty || x == 1) = true) :
    Meets (Builtin.«tuple.__mul__» ⟨[.ref l, .int x u], []⟩)
      (fun _ R s => s.heap.get? l = some { cls := .type "tuple", dict := dd, data := .seq cs n, slots := sl } ∧ R (.ok (.ret (.ref l))) s) := by
  refine .of_wp ?_
  intro prog w A R s h
  obtain ⟨hp, g, d, tk, os⟩ := s
  obtain ⟨hl, h⟩ := h
  have f1 := AutoSeq1.idx_int
  wp_walk using wpAny_loadPart' hl
  repeat (first
    | (refine wpAny_ite_false (decide_eq_false (by rw [c0]; exact Bool.false_ne_true)) ?_; wp_walk using wpAny_loadPart' hl)
    | (refine wpAny_ite_true (decide_eq_true c1) ?_; wp_walk using wpAny_loadPart' hl))
  exact ⟨_, rfl, h⟩
theorem mul_none (l : Addr) (cs : Array Value) (n : Nat) (dd : Option Addr) (sl : Array (Option Value)) (x : Int) (u : Tok)
    (c0 : (decide (x < -(2 ^ 63)) || decide (x ≥ 2 ^ 63)) = false) (c1 : (cs.isEmpty || x == 1) = false) (c2 : (decide (x ≤ 0) || cs.isEmpty) = true) :
    Meets (Builtin.«tuple.__mul__» ⟨[.ref l, .int x u], []⟩)
      (fun _ R s => s.heap.get? l = some { cls := .type "tuple", dict := dd, data := .seq cs n, slots := sl } ∧
        R (.ok (.ret (Value.ref s.heap.objs.size))) { s with heap := s.heap.push { cls := Value.type "tuple", data := Data.seq #[] }, toks := s.toks }) := by
  refine .of_wp ?_
  intro prog w A R s h
  obtain ⟨hp, g, d, tk, os⟩ := s
  obtain ⟨hl, h⟩ := h
  have f1 := AutoSeq1.idx_int
  wp_walk using wpAny_loadPart' hl
  repeat (first
    | (refine wpAny_ite_false (decide_eq_false (by rw [c0]; exact Bool.false_ne_true)) ?_; wp_walk using wpAny_loadPart' hl)
    | (refine wpAny_ite_false (decide_eq_false (by rw [c1]; exact Bool.false_ne_true)) ?_; wp_walk using wpAny_loadPart' hl)
    | (refine wpAny_ite_true (decide_eq_true c2) ?_; wp_walk using wpAny_loadPart' hl))
  exact ⟨_, rfl, h⟩
def rRepW (K : PySem.W.Frag) : R2 := fun x y H Q => ∃ l k xs, x = .ref l ∧ y = .int k ∧ SqT K H l xs ∧ 0 ≤ k ∧ k ≤ 1000 ∧ xs.length ≤ 1000 ∧
  ∀ p H', Same H H' → SqT K H' p (List.replicate k.toNat xs).flatten → Q (.ref p) H'
theorem op_repW {X : Cx} : OpR X (binaryOp .Mult) (rRepW X.K) := by
  intro pins s σ H x y v u Q I rx ry h
  obtain ⟨l, k, xs, rfl, rfl, hT, h0, h1, hz, q⟩ := h
  by_cases hbig : xs ≠ [] ∧ 2 ≤ k
  · exact op_repT pins s σ H _ _ v u Q I rx ry ⟨l, k, xs, rfl, rfl, hT, hbig.1, hbig.2, h1, hz, fun p np => q p _ (same_upd np) (.inl (.inl upd_same))⟩
  have hT0 := hT
  cases rx
  obtain ⟨t, rfl⟩ := ry
  obtain ⟨its, r, ⟨⟨cls, dd, data, sl⟩, ho, hc, n, hd⟩, hs⟩ := I.tuple hT
  simp only at hc hd
  subst hc hd
  have hle : its.length = xs.length := r.length.symm
  have c0 : (decide (k < -(2 ^ 63)) || decide (k ≥ 2 ^ 63)) = false := by
    rw [decide_eq_false (by omega), decide_eq_false (by omega)] <;> rfl
  by_cases hs1 : xs = [] ∨ k = 1
  · have c1 : (its.toArray.isEmpty || k == 1) = true := by
      rcases hs1 with e | e
      · subst e
        have : its = [] := List.eq_nil_of_length_eq_zero hle
        subst this
        rfl
      · subst e
        simp
    refine wpAny_binaryOp_repeat_ref (T := "tuple") (U := "int") (by decide) ⟨_, ho, rfl⟩ (fun s' => typeIs_int s' k t) noFill_tuple_mul F.fills_int_mul F.slot_int_rmul repeat_tuple F.slot_int_index.lookup
      (call_meets F.slot_int_rmul (typeIs_int s k t) F.entry_int_rmul (F.args_int_rmul_2 _ _) (int_rmul_tuple k t l its.toArray n dd sl)
        ⟨ho, rfl, ⟨_, ho, rfl⟩, call_meets F.slot_tuple_mul ⟨_, ho, rfl⟩ F.entry_tuple_mul (F.args_tuple_mul_2 _ _) (mul_same l its.toArray n dd sl k t c0 c1) ⟨ho, ?_⟩⟩)
    refine ⟨.ref l, H, I, rfl, q l H (Same.refl H) ?_⟩
    have e : (List.replicate k.toNat xs).flatten = xs := by
      rcases hs1 with e | e
      · subst e
        exact List.flatten_replicate_nil
      · subst e
        show (List.replicate 1 xs).flatten = xs
        simp
    rw [e]
    exact hT0
  · have hk0 : k = 0 := by
      have hx : xs ≠ [] := fun e => hs1 (.inl e)
      have h2 : ¬ 2 ≤ k := fun e => hbig ⟨hx, e⟩
      have h3 : k ≠ 1 := fun e => hs1 (.inr e)
      omega
    have hx : xs ≠ [] := fun e => hs1 (.inl e)
    have hi : its.toArray.isEmpty = false := by
      cases its with
      | nil => exact absurd (List.eq_nil_of_length_eq_zero hle.symm) hx
      | cons a b => rfl
    have c1 : (its.toArray.isEmpty || k == 1) = false := by
      rw [hi, hk0]
      rfl
    have c2 : (decide (k ≤ 0) || its.toArray.isEmpty) = true := by
      rw [hk0]
      rfl
    refine wpAny_binaryOp_repeat_ref (T := "tuple") (U := "int") (by decide) ⟨_, ho, rfl⟩ (fun s' => typeIs_int s' k t) noFill_tuple_mul F.fills_int_mul F.slot_int_rmul repeat_tuple F.slot_int_index.lookup
      (call_meets F.slot_int_rmul (typeIs_int s k t) F.entry_int_rmul (F.args_int_rmul_2 _ _) (int_rmul_tuple k t l its.toArray n dd sl)
        ⟨ho, rfl, ⟨_, ho, rfl⟩, call_meets F.slot_tuple_mul ⟨_, ho, rfl⟩ F.entry_tuple_mul (F.args_tuple_mul_2 _ _) (mul_none l its.toArray n dd sl k t c0 c1 c2) ⟨ho, ?_⟩⟩)
    refine ⟨.ref s.heap.objs.size, _, I.laid (t' := s.toks) (o := .tup []) (fun b ob z => Heap.get?_push_of_some _ z) (Nat.le_refl _) ?_, rfl, q _ _ (same_upd (I.hok.fresh (Nat.le_refl _))) ?_⟩
    · exact ⟨Nat.zero_le _, [], .nil, IsTup.new _ _⟩
    · rw [hk0]
      exact .inl (.inl upd_same)
end RS

set_option Elab.async false
set_option linter.all false
set_option maxRecDepth 100000
namespace RS
open PySem PySem.Spec PyProof.Rows L2
/-! ### turns: the mathematics -/
/-- the heights that follow, going round -/
def after (hs : List Int) (i : Nat) : List Int := hs.drop (i + 1) ++ hs.take i
theorem after_len {hs : List Int} {i : Nat} (hi : i < hs.length) : (after hs i).length = hs.length - 1 := by
  unfold after
  rw [List.length_append, List.length_drop, List.length_take]
  omega
theorem after_get {hs : List Int} {i j : Nat} (hi : i < hs.length) (hj : j < hs.length - 1) : (after hs i)[j]? = hs[(i + 1 + j) % hs.length]? := by
  unfold after
  by_cases h : i + 1 + j < hs.length
  · rw [List.getElem?_append_left (by rw [List.length_drop]; omega), List.getElem?_drop, Nat.mod_eq_of_lt h]
  · rw [List.getElem?_append_right (by rw [List.length_drop]; omega), List.length_drop]
    have e : (i + 1 + j) % hs.length = i + 1 + j - hs.length := by
      rw [Nat.mod_eq_sub_mod (by omega), Nat.mod_eq_of_lt (by omega)]
    rw [e, List.getElem?_take_of_lt (by omega)]
    congr 1
    omega
def optV : Option Int → V
  | some x => .int x
  | none => .non
def otherOf (hs : List Int) (i : Nat) : Option Int := (after hs i).find? fun x => decide (x ≠ hs.getD i 0)
def nextOther (hs : List Int) (i : Nat) : Int := (otherOf hs i).getD (hs.getD i 0)
def isTurn (hs : List Int) (i : Nat) : Bool :=
  if prevOf hs i = hs.getD i 0 then false else decide (decide (prevOf hs i < hs.getD i 0) = decide (nextOther hs i < hs.getD i 0))
def turnsOf (hs : List Int) : List Nat := (List.range hs.length).filter (isTurn hs)
def natInts (ns : List Nat) : List Int := ns.map fun (n : Nat) => (n : Int)
theorem find_some {l : List Int} {p : Int → Bool} {j : Nat} {c : Int} (h1 : ∀ (j' : Nat) (x : Int), j' < j → l[j']? = some x → p x = false) (h2 : l[j]? = some c) (h3 : p c = true) : l.find? p = some c := by
  induction l generalizing j with
  | nil => simp at h2
  | cons y r ih =>
    cases j with
    | zero =>
      have e : y = c := Option.some.inj h2
      rw [List.find?_cons, e, h3]
    | succ j =>
      have e : p y = false := h1 0 y (by omega) rfl
      rw [List.find?_cons, e]
      exact ih (fun j' x hj hx => h1 (j' + 1) x (by omega) hx) h2
theorem find_none {l : List Int} {p : Int → Bool} (h1 : ∀ (j' : Nat) (x : Int), l[j']? = some x → p x = false) : l.find? p = none := by
  rw [List.find?_eq_none]
  intro x hx
  obtain ⟨j, hj⟩ := List.mem_iff_getElem?.mp hx
  rw [h1 j x hj]
  exact Bool.false_ne_true
/-- the place before stands among those that follow -/
theorem prev_after {hs : List Int} {i : Nat} (hi : i < hs.length) (h2 : 2 ≤ hs.length) : (after hs i)[hs.length - 2]? = some (prevOf hs i) := by
  rw [after_get hi (by omega)]
  unfold prevOf
  have hj : (if i = 0 then hs.length - 1 else i - 1) < hs.length := by split <;> omega
  have e : (i + 1 + (hs.length - 2)) % hs.length = if i = 0 then hs.length - 1 else i - 1 := by
    split
    · rename_i h
      subst h
      rw [Nat.mod_eq_of_lt (by omega)]
      omega
    · rw [Nat.mod_eq_sub_mod (by omega), Nat.mod_eq_of_lt (by omega)]
      omega
  rw [e, List.getD_eq_getElem?_getD, List.getElem?_eq_getElem hj]
  rfl
theorem prev_single {hs : List Int} {i : Nat} (hi : i < hs.length) (h2 : hs.length < 2) : prevOf hs i = hs.getD i 0 := by
  unfold prevOf
  have : i = 0 := by omega
  subst this
  rw [if_pos rfl]
  congr 1
  omega
theorem other_some {hs : List Int} {i : Nat} (hi : i < hs.length) (h : prevOf hs i ≠ hs.getD i 0) : ∃ x, otherOf hs i = some x := by
  have h2 : 2 ≤ hs.length := by
    refine Nat.le_of_not_lt fun z => h (prev_single hi z)
  cases e : otherOf hs i with
  | some x => exact ⟨x, rfl⟩
  | none =>
    unfold otherOf at e
    rw [List.find?_eq_none] at e
    have := e _ (List.mem_of_getElem? (prev_after hi h2))
    exact absurd (decide_eq_true h) this
theorem filter_take_succ {p : Nat → Bool} {i n : Nat} (hi : i < n) : ((List.range n).take (i + 1)).filter p = ((List.range n).take i).filter p ++ (if p i then [i] else []) := by
  rw [List.take_add_one, List.getElem?_range hi, List.filter_append]
  congr 1
  show List.filter p [i] = _
  cases h : p i with
  | true => simp [h]
  | false => simp [h]
theorem turns_lt {hs : List Int} : ∀ t ∈ turnsOf hs, t < hs.length := by
  intro t ht
  exact List.mem_range.mp (List.mem_filter.mp ht).1
theorem turns_len (hs : List Int) : (turnsOf hs).length ≤ hs.length := by
  unfold turnsOf
  exact Nat.le_trans (List.length_filter_le _ _) (by rw [List.length_range]; exact Nat.le_refl _)
theorem natInts_app (a b : List Nat) : natInts (a ++ b) = natInts a ++ natInts b := List.map_append ..
theorem natInts_big {ns : List Nat} (h : ∀ n ∈ ns, n < 1000000) : ∀ x ∈ natInts ns, x.natAbs < 2 ^ 1000 := by
  intro x hx
  obtain ⟨n, hn, rfl⟩ := List.mem_map.mp hx
  have := h n hn
  exact big_of ⟨by omega, by omega⟩
end RS

set_option Elab.async false
set_option linter.all false
set_option maxRecDepth 100000
namespace RS
open PySem PySem.Spec PyProof.Rows L2
/-! ### slices of ints, whatever the bounds -/
theorem cut_ints (ns : List Int) (lo hi : Option Int) : ∃ ks : List Int, cutV (ns.map V.int) lo hi = ks.map V.int ∧ (∀ k ∈ ks, k ∈ ns) ∧ ks.length ≤ ns.length := by
  unfold cutV
  rw [← List.map_drop, ← List.map_take]
  refine ⟨_, rfl, ?_, ?_⟩
  · intro k hk
    exact List.mem_of_mem_drop (List.mem_of_mem_take hk)
  · rw [List.length_take, List.length_drop]
    omega
/-! ### data: tuples of ints in a list -/
def dTups (tss : List (List Int)) : List PyData := tss.map fun ts => .tuple (dInts ts)
theorem dTups_show : ∀ tss : List (List Int), (∀ ts ∈ tss, ∀ n ∈ ts, n.natAbs < 2 ^ 1000) → PyData.showableAll (dTups tss) = true
  | [], _ => rfl
  | ts :: tss, h => by
    show (PyData.showable (.tuple (dInts ts)) && PyData.showableAll (dTups tss)) = true
    rw [dTups_show tss fun t ht => h t (List.mem_cons_of_mem _ ht), Bool.and_true]
    simp only [PyData.showable]
    exact dInts_show ts (h ts List.mem_cons_self)
theorem dTups_nodict : ∀ tss : List (List Int), PyData.hasDictAll (dTups tss) = false
  | [] => rfl
  | ts :: tss => by
    show (PyData.hasDict (.tuple (dInts ts)) || PyData.hasDictAll (dTups tss)) = false
    rw [dTups_nodict tss, Bool.or_false]
    simp only [PyData.hasDict]
    exact dInts_nodict ts
theorem dTups_depth : ∀ tss : List (List Int), PyData.depthAll (dTups tss) ≤ 1
  | [] => Nat.zero_le _
  | ts :: tss => by
    show max (PyData.depth (.tuple (dInts ts))) (PyData.depthAll (dTups tss)) ≤ 1
    have h := dTups_depth tss
    have e : PyData.depth (.tuple (dInts ts)) = 1 := by
      simp only [PyData.depth]
      rw [dInts_depth]
    rw [e]
    omega
theorem dTups_cost : ∀ (tss : List (List Int)) (m : Nat), (∀ ts ∈ tss, ts.length ≤ m) → costAll (dTups tss) ≤ (1923 * m + 5) * tss.length
  | [], _, _ => Nat.zero_le _
  | ts :: tss, m, h => by
    have h1 := dTups_cost tss m fun t ht => h t (List.mem_cons_of_mem _ ht)
    have h2 := h ts List.mem_cons_self
    show cost (.tuple (dInts ts)) + 2 + costAll (dTups tss) ≤ _
    simp only [cost]
    rw [dInts_cost, List.length_cons, Nat.mul_add, Nat.mul_one]
    omega
theorem fine_tups {tss : List (List Int)} (m : Nat) (h : ∀ ts ∈ tss, ∀ n ∈ ts, n.natAbs < 2 ^ 1000) (hm : ∀ ts ∈ tss, ts.length ≤ m) (hz : (1923 * m + 5) * tss.length + 3 ≤ sizeLine) : Fine (.list (dTups tss)) := by
  refine ⟨by simp only [PyData.showable]; exact dTups_show tss h, by simp only [PyData.hasDict]; exact dTups_nodict tss, ?_, ?_⟩
  · simp only [PyData.depth]
    have := dTups_depth tss
    omega
  · simp only [cost]
    have := dTups_cost tss m hm
    omega
/-- refs to tuples of ints -/
def Tups (K : PySem.W.Frag) (H : Hp) (ps : List Addr) (tss : List (List Int)) : Prop := ps.length = tss.length ∧ ∀ (i : Nat) (p : Addr) (ts : List Int), ps[i]? = some p → tss[i]? = some ts → SqT K H p (ts.map V.int)
theorem Tups.nil {K : PySem.W.Frag} {H : Hp} : Tups K H [] [] := ⟨rfl, fun i p ts h => by simp at h⟩
theorem Tups.cons {K : PySem.W.Frag} {H : Hp} {p : Addr} {ts : List Int} {ps : List Addr} {tss : List (List Int)} (h : SqT K H p (ts.map V.int)) (t : Tups K H ps tss) : Tups K H (p :: ps) (ts :: tss) := by
  refine ⟨by rw [List.length_cons, List.length_cons, t.1], ?_⟩
  intro i q us h1 h2
  cases i with
  | zero =>
    cases h1
    cases h2
    exact h
  | succ i => exact t.2 i q us h1 h2
theorem Tups.same {K : PySem.W.Frag} {H H' : Hp} {ps : List Addr} {tss : List (List Int)} (t : Tups K H ps tss) (s : Same H H') : Tups K H' ps tss :=
  ⟨t.1, fun i p ts h1 h2 => Same.tupq s (t.2 i p ts h1 h2)⟩
theorem Tups.snoc {K : PySem.W.Frag} {H : Hp} {p : Addr} {ts : List Int} {ps : List Addr} {tss : List (List Int)} (t : Tups K H ps tss) (h : SqT K H p (ts.map V.int)) : Tups K H (ps ++ [p]) (tss ++ [ts]) := by
  refine ⟨by rw [List.length_append, List.length_append, t.1]; rfl, ?_⟩
  intro i q us h1 h2
  by_cases hi : i < ps.length
  · rw [List.getElem?_append_left hi] at h1
    rw [List.getElem?_append_left (by rw [← t.1]; exact hi)] at h2
    exact t.2 i q us h1 h2
  · rw [List.getElem?_append_right (by omega)] at h1
    rw [List.getElem?_append_right (by rw [← t.1]; omega), ← t.1] at h2
    cases hz : i - ps.length with
    | zero =>
      rw [hz] at h1 h2
      cases h1
      cases h2
      exact h
    | succ m =>
      rw [hz] at h1
      simp at h1
theorem Tups.dp {K : PySem.W.Frag} {H : Hp} : ∀ {ps : List Addr} {tss : List (List Int)}, Tups K H ps tss → DpAll K H (ps.map V.ref) (dTups tss)
  | [], [], _ => .nil
  | [], _ :: _, t => by cases t.1
  | _ :: _, [], t => by cases t.1
  | p :: ps, ts :: tss, t => by
    refine .cons (.tup (t.2 0 p ts rfl rfl) (dpInts ts)) (Tups.dp ⟨Nat.succ.inj t.1, fun i q us h1 h2 => t.2 (i + 1) q us h1 h2⟩)
theorem get_map_ref {ps : List Addr} {i : Nat} {v : V} (h : (ps.map V.ref)[i]? = some v) : ∃ p, ps[i]? = some p ∧ v = .ref p := by
  rw [List.getElem?_map] at h
  cases e : ps[i]? with
  | none =>
    rw [e] at h
    cases h
  | some p =>
    rw [e] at h
    exact ⟨p, rfl, (Option.some.inj h).symm⟩
end RS

set_option Elab.async false
set_option linter.all false
set_option maxRecDepth 100000
namespace RS
open PySem PySem.Spec PyProof.Rows L2
/-! ### passages: the mathematics -/
def outP (lo hi x : Int) : Bool := decide (hi ≤ x) || decide (x ≤ lo)
def begins (hs : List Int) (lo hi : Int) (i : Nat) : Bool :=
  if lo < hs.getD i 0 then false else match (after hs i).find? (outP lo hi) with
    | some x => decide (hi ≤ x)
    | none => false
def passOf (hs : List Int) (lo hi : Int) : List Nat := (List.range hs.length).filter (begins hs lo hi)
theorem pass_lt {hs : List Int} {lo hi : Int} : ∀ t ∈ passOf hs lo hi, t < hs.length := by
  intro t ht
  exact List.mem_range.mp (List.mem_filter.mp ht).1
theorem pass_len (hs : List Int) (lo hi : Int) : (passOf hs lo hi).length ≤ hs.length := by
  unfold passOf
  exact Nat.le_trans (List.length_filter_le _ _) (by rw [List.length_range]; exact Nat.le_refl _)
theorem getD_of {hs : List Int} {i : Nat} {c : Int} (h : hs[i]? = some c) : hs.getD i 0 = c := by
  rw [List.getD_eq_getElem?_getD, h]
  rfl
end RS

set_option Elab.async false
set_option linter.all false
set_option maxRecDepth 100000
namespace RS
open PySem PySem.Spec PyProof.Rows L2
/-! ### counting passages by marks -/
def marks (hs : List Int) (lo hi : Int) : List Bool := (hs.filter (outP lo hi)).map fun x => decide (hi ≤ x)
def rise (p b : Bool) : Nat := if (!p && b) = true then 1 else 0
/-- the rises of a walk that begins at p -/
def adj (p : Bool) : List Bool → Nat
  | [] => 0
  | b :: r => rise p b + adj b r
def endOf (p : Bool) : List Bool → Bool
  | [] => p
  | b :: r => endOf b r
/-- the rises of a closed walk -/
def cyc : List Bool → Nat
  | [] => 0
  | b :: r => adj b (r ++ [b])
theorem adj_app : ∀ (xs ys : List Bool) (p : Bool), adj p (xs ++ ys) = adj p xs + adj (endOf p xs) ys
  | [], ys, p => by
    show adj p ys = 0 + adj p ys
    omega
  | x :: xs, ys, p => by
    show rise p x + adj x (xs ++ ys) = rise p x + adj x xs + adj (endOf x xs) ys
    rw [adj_app xs ys x]
    omega
theorem endOf_app : ∀ (xs ys : List Bool) (p : Bool), endOf p (xs ++ ys) = endOf (endOf p xs) ys
  | [], _, _ => rfl
  | x :: xs, ys, p => endOf_app xs ys x
theorem cyc_rot (a b : List Bool) : cyc (a ++ b) = cyc (b ++ a) := by
  cases a with
  | nil =>
    rw [List.append_nil]
    rfl
  | cons a0 a' =>
    cases b with
    | nil =>
      rw [List.append_nil]
      rfl
    | cons b0 b' =>
      show adj a0 (a' ++ b0 :: b' ++ [a0]) = adj b0 (b' ++ a0 :: a' ++ [b0])
      rw [adj_app (a' ++ b0 :: b') [a0], adj_app a' (b0 :: b'), endOf_app, adj_app (b' ++ a0 :: a') [b0], adj_app b' (a0 :: a'), endOf_app]
      show adj a0 a' + (rise (endOf a0 a') b0 + adj b0 b') + (rise (endOf b0 b') a0 + 0) = adj b0 b' + (rise (endOf b0 b') a0 + adj a0 a') + (rise (endOf a0 a') b0 + 0)
      omega
theorem adj_not : ∀ (xs : List Bool) (p : Bool), adj (!p) (xs.map (!·)) + (endOf p xs).toNat = adj p xs + p.toNat
  | [], p => by
    show 0 + p.toNat = 0 + p.toNat
    rfl
  | x :: xs, p => by
    have ih := adj_not xs x
    show rise (!p) (!x) + adj (!x) (xs.map (!·)) + (endOf x xs).toNat = rise p x + adj x xs + p.toNat
    cases p <;> cases x <;> simp [rise] at ih ⊢ <;> omega
theorem cyc_not (ms : List Bool) : cyc (ms.map (!·)) = cyc ms := by
  cases ms with
  | nil => rfl
  | cons m r =>
    have h := adj_not (r ++ [m]) m
    rw [endOf_app, List.map_append] at h
    have e : (endOf (endOf m r) [m]) = m := rfl
    rw [e] at h
    show adj (!m) (r.map (!·) ++ [!m]) = adj m (r ++ [m])
    have e2 : List.map (fun x => !x) [m] = [!m] := rfl
    rw [e2] at h
    omega
theorem marks_app (a b : List Int) (lo hi : Int) : marks (a ++ b) lo hi = marks a lo hi ++ marks b lo hi := by
  unfold marks
  rw [List.filter_append, List.map_append]
theorem marks_neg (hs : List Int) {lo hi : Int} (h : lo < hi) : marks (hs.map fun x => 0 - x) (0 - hi) (0 - lo) = (marks hs lo hi).map (!·) := by
  unfold marks
  induction hs with
  | nil => rfl
  | cons x r ih =>
    rw [List.map_cons]
    have e : outP (0 - hi) (0 - lo) (0 - x) = outP lo hi x := by
      unfold outP
      rw [show decide (0 - lo ≤ 0 - x) = decide (x ≤ lo) from decide_eq_decide.mpr ⟨fun _ => by omega, fun _ => by omega⟩,
        show decide (0 - x ≤ 0 - hi) = decide (hi ≤ x) from decide_eq_decide.mpr ⟨fun _ => by omega, fun _ => by omega⟩]
      exact Bool.or_comm _ _
    by_cases ho : outP lo hi x = true
    · rw [List.filter_cons_of_pos (by rw [e]; exact ho), List.filter_cons_of_pos ho, List.map_cons, List.map_cons, List.map_cons, ih]
      congr 1
      unfold outP at ho
      by_cases h1 : hi ≤ x
      · rw [decide_eq_true h1, decide_eq_false (by omega)]
        rfl
      · rw [decide_eq_false h1, Bool.false_or] at ho
        have h2 := of_decide_eq_true ho
        rw [decide_eq_false h1, decide_eq_true (by omega)]
        rfl
    · rw [List.filter_cons_of_neg (by rw [e]; exact ho), List.filter_cons_of_neg ho, ih]

/-! ### the number of places where a passage begins -/
def firstMark (l : List Int) (lo hi : Int) : Option Bool := (l.find? (outP lo hi)).map fun x => decide (hi ≤ x)
def cntM (d : Option Bool) : List Bool → Nat
  | [] => 0
  | m :: r => (if (!m) = true ∧ (r.head?.or d) = some true then 1 else 0) + cntM d r
theorem marks_head (l : List Int) (lo hi : Int) : (marks l lo hi).head? = firstMark l lo hi := by
  unfold marks firstMark
  rw [List.head?_map, List.head?_filter]
theorem firstMark_app (a b : List Int) (lo hi : Int) : firstMark (a ++ b) lo hi = (firstMark a lo hi).or (firstMark b lo hi) := by
  rw [← marks_head, marks_app, List.head?_append, marks_head, marks_head]
theorem begins_at {pre r : List Int} {h lo hi : Int} (hlh : lo < hi) : begins (pre ++ h :: r) lo hi pre.length =
    decide (h ≤ lo ∧ ((firstMark r lo hi).or (firstMark (pre ++ h :: r) lo hi)) = some true) := by
  have g : (pre ++ h :: r).getD pre.length 0 = h := by
    rw [List.getD_eq_getElem?_getD, List.getElem?_append_right (Nat.le_refl _), Nat.sub_self]
    rfl
  have ea : after (pre ++ h :: r) pre.length = r ++ pre := by
    unfold after
    rw [List.take_left, show pre ++ h :: r = (pre ++ [h]) ++ r by rw [List.append_assoc]; rfl, show pre.length + 1 = (pre ++ [h]).length by rw [List.length_append]; rfl, List.drop_left]
  unfold begins
  rw [g, ea]
  by_cases hl : lo < h
  · rw [if_pos hl, decide_eq_false (fun z => by omega)]
  · rw [if_neg hl, firstMark_app pre, show h :: r = [h] ++ r from rfl, firstMark_app [h] r, List.find?_append]
    have e1 : firstMark [h] lo hi = some false := by
      unfold firstMark
      rw [List.find?_cons, show outP lo hi h = true by
        unfold outP
        rw [decide_eq_true (show h ≤ lo by omega), Bool.or_true]]
      show some (decide (hi ≤ h)) = _
      rw [decide_eq_false (by omega)]
    rw [e1]
    unfold firstMark
    cases hr : r.find? (outP lo hi) with
    | some x =>
      show decide (hi ≤ x) = decide (h ≤ lo ∧ some (decide (hi ≤ x)) = some true)
      have hz : h ≤ lo := by omega
      by_cases hx : hi ≤ x <;> simp [hx, hz]
    | none =>
      cases hp : pre.find? (outP lo hi) with
      | some y =>
        show decide (hi ≤ y) = decide (h ≤ lo ∧ some (decide (hi ≤ y)) = some true)
        have hz : h ≤ lo := by omega
        by_cases hx : hi ≤ y <;> simp [hx, hz]
      | none => exact (decide_eq_false (fun z => by cases z.2)).symm
theorem filter_range_succ (p : Nat → Bool) (n : Nat) : ((List.range (n + 1)).filter p).length = (if p 0 = true then 1 else 0) + ((List.range n).filter fun i => p (i + 1)).length := by
  rw [List.range_succ_eq_map, List.filter_cons, List.filter_map]
  split <;> simp [Function.comp_def] <;> omega
theorem cnt_suffix {lo hi : Int} (hlh : lo < hi) (d : Option Bool) : ∀ (suf pre : List Int), d = firstMark (pre ++ suf) lo hi →
    ((List.range suf.length).filter fun i => begins (pre ++ suf) lo hi (pre.length + i)).length = cntM d (marks suf lo hi)
  | [], _, _ => rfl
  | h :: r, pre, hd => by
    have ih := cnt_suffix hlh d r (pre ++ [h]) (by rw [hd, List.append_assoc]; rfl)
    rw [List.length_cons, filter_range_succ]
    have e0 : begins (pre ++ h :: r) lo hi (pre.length + 0) = decide (h ≤ lo ∧ ((firstMark r lo hi).or d) = some true) := by
      rw [Nat.add_zero, begins_at hlh, hd]
    have e1 : ((List.range r.length).filter fun i => begins (pre ++ h :: r) lo hi (pre.length + (i + 1))) = ((List.range r.length).filter fun i => begins (pre ++ [h] ++ r) lo hi ((pre ++ [h]).length + i)) := by
      congr 1
      funext i
      rw [List.append_assoc, List.length_append]
      show _ = begins (pre ++ h :: r) lo hi (pre.length + 1 + i)
      congr 1
      omega
    rw [e0, e1, ih]
    have em : marks (h :: r) lo hi = (if outP lo hi h = true then [decide (hi ≤ h)] else []) ++ marks r lo hi := by
      unfold marks
      rw [List.filter_cons]
      split <;> rfl
    rw [em]
    by_cases ho : outP lo hi h = true
    · rw [if_pos ho]
      show _ = (if (!decide (hi ≤ h)) = true ∧ ((marks r lo hi).head?.or d) = some true then 1 else 0) + cntM d (marks r lo hi)
      rw [marks_head]
      congr 1
      by_cases hc : h ≤ lo
      · rw [show decide (hi ≤ h) = false from decide_eq_false (by omega)]
        by_cases hz : (firstMark r lo hi).or d = some true
        · rw [if_pos (decide_eq_true ⟨hc, hz⟩), if_pos ⟨rfl, hz⟩]
        · rw [if_neg (fun z => hz (of_decide_eq_true z).2), if_neg (fun z => hz z.2)]
      · have hh : hi ≤ h := by
          unfold outP at ho
          rw [show decide (h ≤ lo) = false from decide_eq_false hc, Bool.or_false] at ho
          exact of_decide_eq_true ho
        rw [show decide (hi ≤ h) = true from decide_eq_true hh, if_neg (fun z => hc (of_decide_eq_true z).1), if_neg (fun z => by cases z.1)]
    · rw [if_neg ho]
      have hc : ¬ h ≤ lo := by
        intro z
        apply ho
        unfold outP
        rw [decide_eq_true z, Bool.or_true]
      rw [if_neg (fun z => hc (of_decide_eq_true z).1)]
      show 0 + cntM d (marks r lo hi) = cntM d (marks r lo hi)
      omega
theorem cntM_adj (e : Bool) : ∀ (r : List Bool) (m : Bool), cntM (some e) (m :: r) = adj m (r ++ [e])
  | [], m => by
    show (if (!m) = true ∧ some e = some true then 1 else 0) + 0 = rise m e + 0
    unfold rise
    cases m <;> cases e <;> rfl
  | x :: r, m => by
    have ih := cntM_adj e r x
    show (if (!m) = true ∧ some x = some true then 1 else 0) + cntM (some e) (x :: r) = rise m x + adj x (r ++ [e])
    rw [ih]
    congr 1
    unfold rise
    cases m <;> cases x <;> rfl
theorem pass_count {hs : List Int} {lo hi : Int} (hlh : lo < hi) : (passOf hs lo hi).length = cyc (marks hs lo hi) := by
  have h := cnt_suffix hlh (firstMark hs lo hi) hs [] rfl
  have e : ((List.range hs.length).filter fun i => begins ([] ++ hs) lo hi (([] : List Int).length + i)) = passOf hs lo hi := by
    unfold passOf
    congr 1
    funext i
    show begins hs lo hi (0 + i) = _
    rw [Nat.zero_add]
  rw [e] at h
  rw [h, ← marks_head]
  cases marks hs lo hi with
  | nil => rfl
  | cons m r => exact cntM_adj m r m

/-! ### the law's own count -/
def prevB (ms : List Bool) (k : Nat) : Bool := ms.getD (if k = 0 then ms.length - 1 else k - 1) false
def riseAt (ms : List Bool) (k : Nat) : Bool := ms.getD k false && !(prevB ms k)
theorem adj_count : ∀ (xs : List Bool) (p : Bool), ((List.range xs.length).filter fun k => xs.getD k false && !(if k = 0 then p else xs.getD (k - 1) false)).length = adj p xs
  | [], _ => rfl
  | x :: xs, p => by
    have ih := adj_count xs x
    rw [List.length_cons, filter_range_succ]
    show _ = rise p x + adj x xs
    rw [← ih]
    congr 1
    · show (if (x && !p) = true then 1 else 0) = rise p x
      unfold rise
      cases x <;> cases p <;> rfl
    · congr 1
      congr 1
      funext k
      rw [if_neg (by omega)]
      cases k with
      | zero => rfl
      | succ k => rfl
theorem endOf_last : ∀ (xs : List Bool) (x : Bool), endOf x xs = (x :: xs).getD xs.length false
  | [], _ => rfl
  | y :: xs, x => by
    show endOf y xs = _
    rw [endOf_last xs y]
    rfl
theorem rise_count (ms : List Bool) : ((List.range ms.length).filter (riseAt ms)).length = cyc ms := by
  cases ms with
  | nil => rfl
  | cons m r =>
    have h := adj_count (m :: r) (endOf m r)
    have e : ((List.range (m :: r).length).filter (riseAt (m :: r))) = ((List.range (m :: r).length).filter fun k => (m :: r).getD k false && !(if k = 0 then endOf m r else (m :: r).getD (k - 1) false)) := by
      congr 1
      funext k
      unfold riseAt prevB
      by_cases hk : k = 0
      · rw [if_pos hk, if_pos hk, endOf_last]
        rfl
      · rw [if_neg hk, if_neg hk]
    rw [e, h]
    show rise (endOf m r) m + adj m r = adj m (r ++ [m])
    rw [adj_app]
    show _ = adj m r + (rise (endOf m r) m + 0)
    omega
end RS
namespace RS
open PySem PySem.Spec PyProof.Rows L2
/-! ### lists of bools -/
theorem atI_backV {xs : List V} {i : Nat} (hi : i < xs.length) : atI xs ((i : Int) - 1) = xs[if i = 0 then xs.length - 1 else i - 1]? := by
  unfold atI ixN
  by_cases h0 : i = 0
  · subst h0
    rw [if_neg (by omega), if_pos (by omega), if_pos rfl]
    have e : ((((0 : Nat) : Int) - 1) + (xs.length : Int)).toNat = xs.length - 1 := by omega
    rw [e]
    rfl
  · rw [if_pos (by omega), if_pos (by omega), if_neg h0]
    have e : ((i : Int) - 1).toNat = i - 1 := by omega
    rw [e]
    rfl
theorem bl_get {ms : List Bool} {i : Nat} (hi : i < ms.length) : (ms.map V.bl)[i]? = some (.bl (ms.getD i false)) := by
  rw [List.getElem?_map, List.getElem?_eq_getElem hi, List.getD_eq_getElem?_getD, List.getElem?_eq_getElem hi]
  rfl
theorem bl_prev {ms : List Bool} {i : Nat} (hi : i < ms.length) : atI (ms.map V.bl) ((i : Int) - 1) = some (.bl (prevB ms i)) := by
  have hl : (ms.map V.bl).length = ms.length := List.length_map ..
  rw [atI_backV (by rw [hl]; exact hi), hl]
  unfold prevB
  exact bl_get (by split <;> omega)
theorem marks_take {hs : List Int} {lo hi : Int} {i : Nat} {c : Int} (h : hs[i]? = some c) :
    marks (hs.take (i + 1)) lo hi = marks (hs.take i) lo hi ++ (if outP lo hi c = true then [decide (hi ≤ c)] else []) := by
  rw [List.take_add_one, h, marks_app]
  congr 1
  show marks [c] lo hi = _
  unfold marks
  rw [List.filter_cons]
  split <;> rfl
theorem marks_len (hs : List Int) (lo hi : Int) : (marks hs lo hi).length ≤ hs.length := by
  unfold marks
  rw [List.length_map]
  exact List.length_filter_le _ _
theorem cyc_le (ms : List Bool) : cyc ms ≤ ms.length := by
  rw [← rise_count]
  exact Nat.le_trans (List.length_filter_le _ _) (by rw [List.length_range]; exact Nat.le_refl _)
end RS

set_option Elab.async false
set_option linter.all false
set_option maxRecDepth 100000
namespace RS
open PySem PySem.Spec PyProof.Rows L2
/-! ### set(xs) of a list of ints -/
abbrev freshSet (w : World) : Obj := { cls := .type "set", dict := none, data := .set #[] 0 (.fresh 0 0 (!w.params.followText "set-order")) }
section
variable {P : Program} {w : World} {A : Around} {E : Value → Shared → Prop} {s : Shared}
set_option maxHeartbeats 3200000 in
theorem call_set_listI {l : Addr} {cs : Array Value} (ns : List Int) {Q : Value → Shared → Prop} (hh : A.handled = none)
    (hl : s.heap.IsList l cs) (hit : IntsAre cs.toList ns) (hb : ns.length + 1 < scanBound)
    (h : ∀ (h' : Heap) (tk c : Nat), SetR w h' s.heap.objs.size (fun j => decide (j ∈ ns)) c → c ≤ ns.length →
      (∀ b o, s.heap.get? b = some o → h'.get? b = some o) → Q (.ref s.heap.objs.size) { s with heap := h', toks := tk }) :
    wpAny (model P w) A (call (.type "set") [.ref l]) Q E s := by
  have hsz : cs.size = ns.length := by
    have z := IntsAre.length hit
    rwa [Array.length_toList] at z
  obtain ⟨c, tl, hmro⟩ := F.called_set.mro
  have a1 := F.called_set.made
  have a2 := F.called_set.sub
  refine wpAny_call (codeAny_of_tree ?_)
  show wpAny _ _ (callAny (.type "set") _) _ _ _
  refine wpAny_pure ⟨Code.quiet_builtin _ (by decide +kernel), codeAny_builtin F.entry_type_call ?_⟩
  rw [Around.under_plain (weight_type_call_type "set" [.ref l] []) rfl]
  have a3 := F.called_set.notType
  have a4 := F.called_set.canCreate
  have a5 := F.typeCall_set_1 (.ref l)
  repeat (any_goals (first | assumption | wp_step))
  refine codeAny_mono (code_set_led1 (.ref l) (E := E)
    (Q₁ := fun obj s₁ => obj = .ref s.heap.objs.size ∧ s₁ = { s with heap := s.heap.push (freshSet w) }) ⟨rfl, rfl⟩) ?_
  intro r s₁ hr
  cases r with
  | error e => exact hr
  | ok fl =>
    cases fl with
    | ret obj =>
      obtain ⟨rfl, rfl⟩ := hr
      have isS : (s.heap.push (freshSet w)).get? s.heap.objs.size = some (freshSet w) := Heap.get?_push_size _ rfl
      have tyS : Shared.TypeIs { s with heap := s.heap.push (freshSet w) } (.ref s.heap.objs.size) "set" := ⟨_, isS, rfl⟩
      have a6 := F.called_set.init.lookup
      have a7 := F.called_set.init.bind (.ref s.heap.objs.size)
      repeat (any_goals (first | assumption | wp_step))
      refine codeAny_mono (codeAny_call_builtin
        (R := wants (fun r s₂ => r = .none ∧ ∃ h' tk c, s₂ = { s with heap := h', toks := tk } ∧
          SetR w h' s.heap.objs.size (fun j => decide (j ∈ ns)) c ∧ c ≤ ns.length ∧ (∀ b o, s.heap.get? b = some o → h'.get? b = some o)) E)
        F.called_set.init.plain F.entry_set_init (check_set_init_1 tyS ?_)) ?_
      · obtain ⟨ol, hol, hcl, nl, hdl⟩ := hl
        obtain ⟨ocls, odict, odata, oslots⟩ := ol
        simp only at hcl hdl
        subst hcl
        subst hdl
        have hol2 : (s.heap.push (freshSet w)).get? l = some { cls := .type "list", dict := odict, data := .seq cs nl, slots := oslots } := Heap.get?_push_of_some _ hol
        have b1 := F.sub_list_set
        have b2 := F.sub_list_frozenset
        have b3 : (Value.type "list" == Value.type "dict") = false := by decide
        have hl1 : (s.heap.push (freshSet w)).IsList l cs := ⟨_, hol2, rfl, nl, rfl⟩
        unfold Builtin.«set.__init__» noKeywords Builtin.Frozenset.updateFrom
        generalize hPI : pyIter = PI
        wp_walk
        subst hPI
        refine wpAny_pyIter_list hl1 ?_
        refine wpAny_bind (wpAny_runValue ?_)
        have ltS : l < s.heap.objs.size := Heap.lt_size hol
        have hh3 : A.in1.in1.in1.handled = none := by simp [hh]
        have neI : l ≠ (s.heap.push (freshSet w)).objs.size := by
          rw [Heap.size_push]
          exact Nat.ne_of_lt (Nat.lt_succ_of_lt ltS)
        have nSf : s.heap.objs.size ∉ [(s.heap.push (freshSet w)).objs.size, l] := by
          rw [Heap.size_push]
          simp only [List.mem_cons, List.mem_singleton, List.not_mem_nil, or_false, not_or]
          exact ⟨Nat.ne_of_lt (Nat.lt_succ_self _), Nat.ne_of_gt ltS⟩
        have vals : ∀ (i : Nat) (v : Value), cs[i]? = some v → ∃ k t, ns[i]? = some k ∧ v = .int k t := by
          intro i v hv
          have hi : i < ns.length := by
            rw [← hsz]
            exact (Array.getElem?_eq_some_iff.mp hv).1
          obtain ⟨t, e⟩ := PyProof.Rows.IntsAre.int_at hit i v (by rw [Array.getElem?_toList]; exact hv)
          refine ⟨ns[i], t, List.getElem?_eq_getElem hi, ?_⟩
          rw [e, List.getD_eq_getElem?_getD, List.getElem?_eq_getElem hi]
          rfl
        refine set_update_ints ((Walks.list hh3 _ l neI cs).toS) s.heap.objs.size nSf ns hsz hb vals (cs.size - 0) 0 _ (by omega) (Nat.zero_le _)
          ⟨⟨_, Heap.get?_push_size _ rfl, rfl, rfl⟩, (hl1.push _)⟩ ?start ?done
        case start => exact ⟨0, Nat.le_refl 0, setR_new_at (Heap.get?_push_of_some _ isS)⟩
        case done =>
          intro s' c' hm hc' hS'
          obtain ⟨h', g2, d', tk', os'⟩ := s'
          obtain rfl : g2 = s.gens := hm.gens
          obtain rfl : d' = s.drawn := hm.drawn
          obtain rfl : os' = s.os := hm.os
          show wpAny _ _ _ _ _ _
          refine wpAny_pure ?_
          show wpAny _ _ (ret Value.none) _ _ _
          rw [hsz] at hc'
          refine wpAny_pure ⟨rfl, h', tk', c', rfl, hS', hc', ?_⟩
          intro b o e
          have hb0 : b < s.heap.objs.size := Heap.lt_size e
          have hb2 : b ≠ (s.heap.push (freshSet w)).objs.size := by
            rw [Heap.size_push]
            exact Nat.ne_of_lt (Nat.lt_succ_of_lt hb0)
          refine hm.heap b o ?_ (Heap.get?_push_of_some _ (Heap.get?_push_of_some _ e))
          simp only [List.mem_cons, List.mem_singleton, List.not_mem_nil, or_false, not_or]
          exact ⟨Nat.ne_of_lt hb0, hb2⟩
      · intro r₂ s₂ hr₂
        cases r₂ with
        | error e => exact hr₂
        | ok fl₂ =>
          cases fl₂ with
          | ret r =>
            obtain ⟨rfl, h', tk, c', rfl, hS', hc', hk'⟩ := hr₂
            repeat (any_goals (first | assumption | wp_step))
            exact h h' tk c' hS' hc' hk'
          | next => exact hr₂
          | brk => exact hr₂
          | cont => exact hr₂
    | next => exact hr
    | brk => exact hr
    | cont => exact hr
end
end RS
namespace RS
open PySem PySem.Spec PyProof.Rows L2
section
variable {X : Cx}
theorem intsAre_of : ∀ {ns : List Int} {us : List Value}, Vals (ns.map V.int) us → IntsAre us ns
  | [], _, h => by
    cases h
    exact .nil
  | n :: ns, _, h => by
    cases h with
    | cons r rr =>
      obtain ⟨t, rfl⟩ := r
      exact .cons n t (intsAre_of rr)
/-- set(xs), xs a list or a tuple of ints -/
def rSetI (K : PySem.W.Frag) (w : World) : List V → Hp → VK → Prop := fun xs H Q => ∃ (l : Addr) (ns : List Int), xs = [.ref l] ∧
  (SqL K H l (ns.map V.int) ∨ SqT K H l (ns.map V.int)) ∧ ns.length ≤ 1000 ∧
  ∀ p c, H p = none → c ≤ ns.length → Q (.ref p) (upd H p (SetO w p (fun j => decide (j ∈ ns)) c))
theorem cr_setI (hc : X.calm = true) : CallR X (.type "set") (rSetI X.K X.w) := by
  intro pins s σ H xs us Q I r h
  obtain ⟨l, ns, rfl, hq, hl, q⟩ := h
  obtain ⟨u, rfl, ru⟩ := vals1 r
  cases ru
  have hb : ns.length + 1 < scanBound := Nat.lt_of_le_of_lt (Nat.succ_le_succ hl) (by decide)
  have hf : H s.heap.objs.size = none := I.hok.fresh (Nat.le_refl _)
  rcases hq with hq | hq
  · obtain ⟨its, rv, pl, hz⟩ := I.list hq
    refine call_set_listI ns (I.ok.hd hc) pl.isList (by simpa using intsAre_of rv) hb ?_
    intro h' tk c hS hcl hk
    exact ⟨.ref s.heap.objs.size, _, I.laid (t' := tk) (fun b o e => hk b o e) (Nat.le_refl _) (setO_new hS), rfl, q _ c hf hcl⟩
  · obtain ⟨its, rv, tp, hz⟩ := I.tuple hq
    refine call_set_tupI ns (I.ok.hd hc) (show s.heap.IsTuple l its.toArray from tp) (by simpa using intsAre_of rv) hb ?_
    intro h' tk c hS hcl hk
    exact ⟨.ref s.heap.objs.size, _, I.laid (t' := tk) (fun b o e => hk b o e) (Nat.le_refl _) (setO_new hS), rfl, q _ c hf hcl⟩
end
end RS

set_option Elab.async false
set_option linter.all false
set_option maxRecDepth 100000
namespace RS
open PySem PySem.Spec PyProof.Rows L2
/-! ### closed walks and what may be taken out of them -/
theorem cyc_cons (m : Bool) (r : List Bool) : cyc (m :: r) = rise (endOf m r) m + adj m r := by
  show adj m (r ++ [m]) = _
  rw [adj_app]
  show adj m r + (rise (endOf m r) m + 0) = _
  omega
theorem endOf_eq (m : Bool) (r : List Bool) (b : Bool) (h : (m :: r).getLast? = some b) : endOf m r = b := by
  induction r generalizing m with
  | nil =>
    exact Option.some.inj h
  | cons x r ih =>
    rw [List.getLast?_cons_cons] at h
    exact ih x h
theorem mark_head {R : List Int} {lo hi n : Int} (h : R.head? = some n) (ho : outP lo hi n = true) : (marks R lo hi).head? = some (decide (hi ≤ n)) := by
  cases R with
  | nil => cases h
  | cons x r =>
    cases h
    unfold marks
    rw [List.filter_cons_of_pos ho]
    rfl
theorem mark_last {R : List Int} {lo hi p : Int} (h : R.getLast? = some p) (ho : outP lo hi p = true) : (marks R lo hi).getLast? = some (decide (hi ≤ p)) := by
  have e : R = R.dropLast ++ [p] := by
    have hne : R ≠ [] := by
      rintro rfl
      cases h
    rw [List.getLast?_eq_getLast hne] at h
    rw [← Option.some.inj h, List.dropLast_concat_getLast]
  rw [e, marks_app, List.getLast?_append]
  have : marks [p] lo hi = [decide (hi ≤ p)] := by
    unfold marks
    rw [List.filter_cons_of_pos ho]
    rfl
  rw [this]
  rfl
theorem marks_cons (x : Int) (R : List Int) (lo hi : Int) : marks (x :: R) lo hi = (if outP lo hi x = true then [decide (hi ≤ x)] else []) ++ marks R lo hi := by
  unfold marks
  rw [List.filter_cons]
  split <;> rfl
theorem out_lo {lo hi x : Int} (h : x ≤ lo) : outP lo hi x = true := by
  unfold outP
  rw [decide_eq_true h, Bool.or_true]
theorem out_hi {lo hi x : Int} (h : hi ≤ x) : outP lo hi x = true := by
  unfold outP
  rw [decide_eq_true h, Bool.true_or]
theorem out_mid {lo hi x : Int} (h1 : lo < x) (h2 : x < hi) : ¬ outP lo hi x = true := by
  unfold outP
  rw [decide_eq_false (by omega), decide_eq_false (by omega)]
  exact Bool.false_ne_true
/-- a height between its neighbours -/
theorem cyc_mid {R : List Int} {lo hi p n x : Int} (hlh : lo < hi) (hn : R.head? = some n) (hp : R.getLast? = some p) (hb : (p ≤ x ∧ x ≤ n) ∨ (n ≤ x ∧ x ≤ p)) :
    cyc (marks (x :: R) lo hi) = cyc (marks R lo hi) := by
  rw [marks_cons]
  by_cases ho : outP lo hi x = true
  · rw [if_pos ho]
    show cyc (decide (hi ≤ x) :: marks R lo hi) = _
    by_cases hx : hi ≤ x
    · rw [decide_eq_true hx]
      rcases hb with ⟨_, h2⟩ | ⟨_, h2⟩
      · have m := mark_head hn (out_hi (lo := lo) (show hi ≤ n by omega))
        rw [decide_eq_true (show hi ≤ n by omega)] at m
        cases hm : marks R lo hi with
        | nil =>
          rw [hm] at m
          cases m
        | cons b r =>
          rw [hm] at m
          cases m
          rw [cyc_cons, cyc_cons]
          show rise (endOf true r) true + (rise true true + adj true r) = rise (endOf true r) true + adj true r
          have : rise true true = 0 := rfl
          omega
      · have m := mark_last hp (out_hi (lo := lo) (show hi ≤ p by omega))
        rw [decide_eq_true (show hi ≤ p by omega)] at m
        cases hm : marks R lo hi with
        | nil =>
          rw [hm] at m
          cases m
        | cons b r =>
          rw [hm] at m
          have e := endOf_eq b r true m
          rw [cyc_cons, cyc_cons]
          show rise (endOf b r) true + (rise true b + adj b r) = rise (endOf b r) b + adj b r
          rw [e]
          have : rise true true = 0 := rfl
          omega
    · have hx2 : x ≤ lo := by
        refine Classical.byContradiction fun z => out_mid (lo := lo) (hi := hi) (x := x) (by omega) (by omega) ho
      rw [decide_eq_false hx]
      rcases hb with ⟨h1, _⟩ | ⟨h1, _⟩
      · have m := mark_last hp (out_lo (hi := hi) (show p ≤ lo by omega))
        rw [decide_eq_false (show ¬ hi ≤ p by omega)] at m
        cases hm : marks R lo hi with
        | nil =>
          rw [hm] at m
          cases m
        | cons b r =>
          rw [hm] at m
          have e := endOf_eq b r false m
          rw [cyc_cons, cyc_cons]
          show rise (endOf b r) false + (rise false b + adj b r) = rise (endOf b r) b + adj b r
          rw [e]
          have : rise false false = 0 := rfl
          omega
      · have m := mark_head hn (out_lo (hi := hi) (show n ≤ lo by omega))
        rw [decide_eq_false (show ¬ hi ≤ n by omega)] at m
        cases hm : marks R lo hi with
        | nil =>
          rw [hm] at m
          cases m
        | cons b r =>
          rw [hm] at m
          cases m
          rw [cyc_cons, cyc_cons]
          show rise (endOf false r) false + (rise false false + adj false r) = rise (endOf false r) false + adj false r
          have : rise false false = 0 := rfl
          omega
  · rw [if_neg ho, List.nil_append]
def inSw (lo hi a b : Int) : Nat := if a ≤ lo ∧ hi ≤ b then 1 else 0
theorem rise_x_false (b : Bool) : rise b false = 0 := by cases b <;> rfl
theorem rise_true_x (b : Bool) : rise true b = 0 := by cases b <;> rfl
/-- two neighbours between which the walk can be straightened: up, then down again -/
theorem cyc_pair {R : List Int} {lo hi p s q r : Int} (hlh : lo < hi) (hs : R.head? = some s) (hp : R.getLast? = some p) (hqr : q < r) (h1 : r ≤ p) (h2 : s ≤ q) :
    cyc (marks (q :: r :: R) lo hi) = cyc (marks R lo hi) + inSw lo hi q r := by
  rw [marks_cons q, marks_cons r]
  unfold inSw
  by_cases hq : q ≤ lo
  · have mh := mark_head hs (out_lo (hi := hi) (show s ≤ lo by omega))
    rw [decide_eq_false (show ¬ hi ≤ s by omega)] at mh
    rw [if_pos (out_lo (hi := hi) hq), decide_eq_false (show ¬ hi ≤ q by omega)]
    cases hm : marks R lo hi with
    | nil =>
      rw [hm] at mh
      cases mh
    | cons b t =>
      rw [hm] at mh
      cases mh
      by_cases hr : hi ≤ r
      · have ml := mark_last hp (out_hi (lo := lo) (show hi ≤ p by omega))
        rw [hm, decide_eq_true (show hi ≤ p by omega)] at ml
        have e := endOf_eq false t true ml
        rw [if_pos (out_hi (lo := lo) hr), decide_eq_true hr, if_pos ⟨hq, hr⟩]
        show cyc (false :: true :: false :: t) = _
        rw [cyc_cons, cyc_cons]
        show rise (endOf false t) false + (rise false true + (rise true false + adj false t)) = rise (endOf false t) false + adj false t + 1
        have e1 : rise false true = 1 := rfl
        have e2 : rise true false = 0 := rfl
        omega
      · rw [if_neg (show ¬ (q ≤ lo ∧ hi ≤ r) from fun z => hr z.2)]
        by_cases hr2 : r ≤ lo
        · rw [if_pos (out_lo (hi := hi) hr2), decide_eq_false hr]
          show cyc (false :: false :: false :: t) = _
          rw [cyc_cons, cyc_cons]
          show rise (endOf false t) false + (rise false false + (rise false false + adj false t)) = rise (endOf false t) false + adj false t + 0
          have e1 : rise false false = 0 := rfl
          omega
        · rw [if_neg (out_mid (by omega) (by omega))]
          show cyc (false :: false :: t) = _
          rw [cyc_cons, cyc_cons]
          show rise (endOf false t) false + (rise false false + adj false t) = rise (endOf false t) false + adj false t + 0
          have e1 : rise false false = 0 := rfl
          omega
  · rw [if_neg (show ¬ (q ≤ lo ∧ hi ≤ r) from fun z => hq z.1)]
    by_cases hr : hi ≤ r
    · have ml := mark_last hp (out_hi (lo := lo) (show hi ≤ p by omega))
      rw [decide_eq_true (show hi ≤ p by omega)] at ml
      rw [if_pos (out_hi (lo := lo) hr), decide_eq_true hr]
      cases hm : marks R lo hi with
      | nil =>
        rw [hm] at ml
        cases ml
      | cons b t =>
        rw [hm] at ml
        have e := endOf_eq b t true ml
        by_cases hq2 : hi ≤ q
        · rw [if_pos (out_hi (lo := lo) hq2), decide_eq_true hq2]
          show cyc (true :: true :: b :: t) = _
          rw [cyc_cons, cyc_cons]
          show rise (endOf b t) true + (rise true true + (rise true b + adj b t)) = rise (endOf b t) b + adj b t + 0
          rw [e]
          have e1 : rise true true = 0 := rfl
          omega
        · rw [if_neg (out_mid (by omega) (by omega))]
          show cyc (true :: b :: t) = _
          rw [cyc_cons, cyc_cons]
          show rise (endOf b t) true + (rise true b + adj b t) = rise (endOf b t) b + adj b t + 0
          rw [e]
          have e1 : rise true true = 0 := rfl
          omega
    · rw [if_neg (out_mid (by omega) (by omega)), if_neg (out_mid (by omega) (by omega))]
      show cyc (marks R lo hi) = _
      omega
/-- the same, down, then up again -/
theorem cyc_pair' {R : List Int} {lo hi p s q r : Int} (hlh : lo < hi) (hs : R.head? = some s) (hp : R.getLast? = some p) (hqr : r < q) (h1 : p ≤ r) (h2 : q ≤ s) :
    cyc (marks (q :: r :: R) lo hi) = cyc (marks R lo hi) + inSw lo hi r q := by
  have h := cyc_pair (R := R.map fun x => 0 - x) (lo := 0 - hi) (hi := 0 - lo) (p := 0 - p) (s := 0 - s) (q := 0 - q) (r := 0 - r) (by omega)
    (by rw [List.head?_map, hs]; rfl) (by rw [List.getLast?_map, hp]; rfl) (by omega) (by omega) (by omega)
  have e1 := marks_neg (q :: r :: R) hlh
  have e2 := marks_neg R hlh
  rw [List.map_cons, List.map_cons] at e1
  rw [e1, e2, cyc_not, cyc_not] at h
  rw [h]
  congr 1
  unfold inSw
  by_cases hz : r ≤ lo ∧ hi ≤ q
  · rw [if_pos hz, if_pos ⟨by omega, by omega⟩]
  · rw [if_neg hz, if_neg (fun z => hz ⟨by omega, by omega⟩)]
theorem cyc_two {lo hi q r : Int} (hlh : lo < hi) (hqr : q < r) : cyc (marks [q, r] lo hi) = inSw lo hi q r ∧ cyc (marks [r, q] lo hi) = inSw lo hi q r := by
  have e : cyc (marks [q, r] lo hi) = cyc (marks [r, q] lo hi) := by
    rw [show [q, r] = [q] ++ [r] from rfl, show [r, q] = [r] ++ [q] from rfl, marks_app, marks_app, cyc_rot]
  refine ⟨?_, e ▸ ?_⟩ <;>
  · rw [marks_cons, marks_cons]
    unfold inSw
    by_cases hq : q ≤ lo
    · rw [if_pos (out_lo (hi := hi) hq), decide_eq_false (show ¬ hi ≤ q by omega)]
      by_cases hr : hi ≤ r
      · rw [if_pos (out_hi (lo := lo) hr), decide_eq_true hr, if_pos ⟨hq, hr⟩]
        rfl
      · rw [if_neg (show ¬ (q ≤ lo ∧ hi ≤ r) from fun z => hr z.2)]
        by_cases hr2 : r ≤ lo
        · rw [if_pos (out_lo (hi := hi) hr2), decide_eq_false hr]
          rfl
        · rw [if_neg (out_mid (by omega) (by omega))]
          rfl
    · rw [if_neg (show ¬ (q ≤ lo ∧ hi ≤ r) from fun z => hq z.1)]
      by_cases hr : hi ≤ r
      · rw [if_pos (out_hi (lo := lo) hr), decide_eq_true hr]
        by_cases hq2 : hi ≤ q
        · rw [if_pos (out_hi (lo := lo) hq2), decide_eq_true hq2]
          rfl
        · rw [if_neg (out_mid (by omega) (by omega))]
          rfl
      · rw [if_neg (out_mid (by omega) (by omega)), if_neg (out_mid (by omega) (by omega))]
        rfl

/-! ### chains -/
section
variable {α : Type}
def Ch (R : α → α → Prop) : α → List α → α → Prop
  | a, [], b => R a b
  | a, x :: l, b => R a x ∧ Ch R x l b
def Cl (R : α → α → Prop) : List α → Prop
  | [] => True
  | x :: r => Ch R x r x
theorem ch_app {R : α → α → Prop} : ∀ (l1 : List α) (a x : α) (l2 : List α) (b : α), Ch R a (l1 ++ x :: l2) b ↔ Ch R a l1 x ∧ Ch R x l2 b
  | [], a, x, l2, b => Iff.rfl
  | y :: l1, a, x, l2, b => by
    show R a y ∧ Ch R y (l1 ++ x :: l2) b ↔ (R a y ∧ Ch R y l1 x) ∧ Ch R x l2 b
    rw [ch_app l1 y x l2 b]
    exact and_assoc.symm
theorem cl_rot {R : α → α → Prop} (A B : List α) (h : Cl R (A ++ B)) : Cl R (B ++ A) := by
  cases A with
  | nil =>
    rw [List.append_nil]
    exact h
  | cons a A =>
    cases B with
    | nil =>
      rw [List.append_nil] at h
      exact h
    | cons b B =>
      have h' : Ch R a (A ++ b :: B) a := h
      show Ch R b (B ++ a :: A) b
      rw [ch_app] at h' ⊢
      exact ⟨h'.2, h'.1⟩
end
end RS

set_option Elab.async false
set_option linter.all false
set_option maxRecDepth 100000
namespace RS
open PySem PySem.Spec PyProof.Rows L2
/-! ### chains from what holds place by place -/
section
variable {α : Type}
theorem ch_mono {R S : α → α → Prop} (h : ∀ x y, R x y → S x y) : ∀ (l : List α) (a b : α), Ch R a l b → Ch S a l b
  | [], a, b, q => h a b q
  | x :: l, a, b, q => ⟨h a x q.1, ch_mono h l x b q.2⟩
theorem ch_and {R S : α → α → Prop} : ∀ (l : List α) (a b : α), Ch R a l b → Ch S a l b → Ch (fun x y => R x y ∧ S x y) a l b
  | [], a, b, q, r => ⟨q, r⟩
  | x :: l, a, b, q, r => ⟨⟨q.1, r.1⟩, ch_and l x b q.2 r.2⟩
theorem ch_start {R : α → α → Prop} {a z b : α} (h : ∀ y, R a y → R z y) : ∀ (l : List α), Ch R a l b → Ch R z l b
  | [], q => h b q
  | x :: l, q => ⟨h x q.1, q.2⟩
theorem ch_of {R : α → α → Prop} : ∀ (l : List α) (a b : α), (∀ (i : Nat) (x y : α), (a :: l)[i]? = some x → l[i]? = some y → R x y) → (∀ x, (a :: l).getLast? = some x → R x b) → Ch R a l b
  | [], a, b, _, h2 => h2 a rfl
  | x :: l, a, b, h1, h2 => by
    refine ⟨h1 0 a x rfl rfl, ch_of l x b ?_ ?_⟩
    · intro i y z hy hz
      exact h1 (i + 1) y z hy hz
    · intro y hy
      refine h2 y ?_
      rw [List.getLast?_cons_cons]
      exact hy
/-- the place before, around n places -/
def pre_ (n i : Nat) : Nat := if i = 0 then n - 1 else i - 1
theorem cl_of {R : α → α → Prop} (l : List α) (h : ∀ (i : Nat) (x y : α), l[i]? = some y → l[pre_ l.length i]? = some x → R x y) : Cl R l := by
  cases l with
  | nil => trivial
  | cons a r =>
    refine ch_of r a a ?_ ?_
    · intro i x y hx hy
      refine h (i + 1) x y hy ?_
      unfold pre_
      rw [if_neg (by omega), Nat.add_sub_cancel]
      exact hx
    · intro x hx
      refine h 0 x a rfl ?_
      unfold pre_
      rw [if_pos rfl]
      rw [List.getLast?_eq_getElem?] at hx
      exact hx
theorem cl_len {R : α → α → Prop} (irr : ∀ x, ¬ R x x) {l : List α} (h : Cl R l) : l.length ≠ 1 := by
  intro e
  match l, e with
  | [x], _ => exact irr x h
end

/-! ### up or down -/
def hgt (hs : List Int) (i : Nat) : Int := hs.getD i 0
def upAt (hs : List Int) (i : Nat) : Bool := decide (hgt hs i < nextOther hs i)
theorem prevOf_eq (hs : List Int) (i : Nat) : prevOf hs i = hgt hs (pre_ hs.length i) := rfl
theorem getElem_hgt {hs : List Int} {i : Nat} (hi : i < hs.length) : hs[i]? = some (hgt hs i) := by
  unfold hgt
  rw [List.getD_eq_getElem?_getD, List.getElem?_eq_getElem hi]
  rfl
theorem after_pre {hs : List Int} {i : Nat} (hi : i < hs.length) (h2 : 2 ≤ hs.length) : ∃ X, after hs (pre_ hs.length i) = hgt hs i :: X ∧ after hs i = X ++ [hgt hs (pre_ hs.length i)] := by
  unfold pre_
  by_cases h0 : i = 0
  · subst h0
    rw [if_pos rfl]
    refine ⟨(hs.drop 1).dropLast, ?_, ?_⟩
    · unfold after
      rw [show hs.length - 1 + 1 = hs.length by omega, List.drop_length, List.nil_append]
      cases hs with
      | nil => simp at hi
      | cons a r =>
        show List.take (r.length + 1 - 1) (a :: r) = a :: r.dropLast
        cases r with
        | nil => simp at h2
        | cons b t =>
          rw [List.dropLast_eq_take]
          rfl
    · unfold after
      rw [List.take_zero, List.append_nil]
      have hne : hs.drop 1 ≠ [] := by
        intro z
        have := congrArg List.length z
        rw [List.length_drop] at this
        simp at this
        omega
      have e : hgt hs (hs.length - 1) = (hs.drop 1).getLast hne := by
        have g := getElem_hgt (hs := hs) (i := hs.length - 1) (by omega)
        have g2 : (hs.drop 1).getLast? = some (hgt hs (hs.length - 1)) := by
          rw [List.getLast?_eq_getElem?, List.length_drop, List.getElem?_drop, show 1 + (hs.length - 1 - 1) = hs.length - 1 by omega]
          exact g
        rw [List.getLast?_eq_getLast hne] at g2
        exact (Option.some.inj g2).symm
      rw [e, List.dropLast_concat_getLast]
  · rw [if_neg h0]
    refine ⟨hs.drop (i + 1) ++ hs.take (i - 1), ?_, ?_⟩
    · unfold after
      rw [show i - 1 + 1 = i by omega]
      have : hs.drop i = hgt hs i :: hs.drop (i + 1) := by
        rw [List.drop_eq_getElem_cons hi]
        congr 1
        have := getElem_hgt hi
        rw [List.getElem?_eq_getElem hi] at this
        exact Option.some.inj this
      rw [this]
      rfl
    · unfold after
      have : hs.take i = hs.take (i - 1) ++ [hgt hs (i - 1)] := by
        have e := List.take_add_one (l := hs) (i := i - 1)
        rw [show i - 1 + 1 = i by omega, getElem_hgt (by omega)] at e
        exact e
      rw [this, List.append_assoc]
theorem pre_lt {n i : Nat} (hi : i < n) : pre_ n i < n := by
  unfold pre_
  split <;> omega
theorem pre_single {n i : Nat} (hi : i < n) (h2 : n < 2) : pre_ n i = i := by
  unfold pre_
  split <;> omega
/-- the next other height of the place before -/
theorem next_pre {hs : List Int} {i : Nat} (hi : i < hs.length) (h : hgt hs (pre_ hs.length i) ≠ hgt hs i) : nextOther hs (pre_ hs.length i) = hgt hs i := by
  have h2 : 2 ≤ hs.length := by
    refine Nat.le_of_not_lt fun z => h ?_
    rw [pre_single hi z]
  obtain ⟨X, e1, _⟩ := after_pre hi h2
  unfold nextOther otherOf
  rw [e1, List.find?_cons, show decide (hgt hs i ≠ hs.getD (pre_ hs.length i) 0) = true from decide_eq_true (fun z => h z.symm)]
  rfl
theorem next_eq {hs : List Int} {i : Nat} (hi : i < hs.length) (h : hgt hs (pre_ hs.length i) = hgt hs i) : nextOther hs (pre_ hs.length i) = nextOther hs i := by
  by_cases h2 : 2 ≤ hs.length
  · obtain ⟨X, e1, e2⟩ := after_pre hi h2
    have g1 : hs.getD (pre_ hs.length i) 0 = hgt hs i := h
    have g2 : hs.getD i 0 = hgt hs i := rfl
    unfold nextOther otherOf
    rw [e1, e2, g1, g2, h, List.find?_cons, List.find?_append, List.find?_cons]
    have z : decide (hgt hs i ≠ hgt hs i) = false := decide_eq_false (fun q => q rfl)
    rw [z]
    show (List.find? _ X).getD _ = ((List.find? _ X).or none).getD _
    rw [Option.or_none]
  · rw [pre_single hi (by omega)]
def R1 (hs : List Int) (i j : Nat) : Prop := (if upAt hs i = true then hgt hs i ≤ hgt hs j else hgt hs j ≤ hgt hs i) ∧ (upAt hs i ≠ upAt hs j → hgt hs i ≠ hgt hs j)
theorem r1_pre {hs : List Int} {i : Nat} (hi : i < hs.length) : R1 hs (pre_ hs.length i) i := by
  by_cases h : hgt hs (pre_ hs.length i) = hgt hs i
  · refine ⟨by rw [h]; split <;> exact Int.le_refl _, fun z => absurd ?_ z⟩
    unfold upAt
    rw [next_eq hi h, h]
  · refine ⟨?_, fun _ => h⟩
    unfold upAt
    rw [next_pre hi h]
    by_cases hz : hgt hs (pre_ hs.length i) < hgt hs i
    · rw [if_pos (decide_eq_true hz)]
      omega
    · rw [if_neg (fun q => hz (of_decide_eq_true q))]
      omega
theorem turn_iff {hs : List Int} {i : Nat} (hi : i < hs.length) : isTurn hs i = decide (upAt hs (pre_ hs.length i) ≠ upAt hs i) := by
  have d0 : hs.getD i 0 = hgt hs i := rfl
  unfold isTurn
  rw [prevOf_eq, d0]
  by_cases h : hgt hs (pre_ hs.length i) = hgt hs i
  · rw [if_pos h]
    refine (decide_eq_false fun z => z ?_).symm
    unfold upAt
    rw [next_eq hi h, h]
  · rw [if_neg h]
    unfold upAt
    rw [next_pre hi h]
    obtain ⟨x, hx⟩ := other_some hi h
    have hn : nextOther hs i ≠ hgt hs i := by
      unfold nextOther
      rw [hx]
      unfold otherOf at hx
      have := List.find?_some hx
      exact of_decide_eq_true this
    generalize hgt hs i = b at *
    generalize hgt hs (pre_ hs.length i) = a at *
    generalize nextOther hs i = c at *
    by_cases h1 : a < b <;> by_cases h2 : c < b
    · rw [decide_eq_true h1, decide_eq_true h2, decide_eq_false (show ¬ b < c by omega)]
      rfl
    · rw [decide_eq_true h1, decide_eq_false h2, decide_eq_true (show b < c by omega)]
      rfl
    · rw [decide_eq_false h1, decide_eq_true h2, decide_eq_false (show ¬ b < c by omega)]
      rfl
    · rw [decide_eq_false h1, decide_eq_false h2, decide_eq_true (show b < c by omega)]
      rfl
theorem r1_trans {hs : List Int} {z x y : Nat} (e : upAt hs z = upAt hs x) (h1 : R1 hs z x) (h2 : R1 hs x y) : R1 hs z y := by
  unfold R1 at *
  rw [e] at h1 ⊢
  cases hx : upAt hs x with
  | true =>
    rw [hx] at h1 h2
    rw [if_pos rfl] at h1 h2 ⊢
    refine ⟨by omega, fun q => ?_⟩
    have := h2.2 q
    omega
  | false =>
    rw [hx] at h1 h2
    rw [if_neg Bool.false_ne_true] at h1 h2 ⊢
    refine ⟨by omega, fun q => ?_⟩
    have := h2.2 q
    omega

/-! ### only the turns matter -/
def hts (hs : List Int) (l : List Nat) : List Int := l.map (hgt hs)
def filtI (hs : List Int) : Nat → List Nat → List Nat
  | _, [] => []
  | z, x :: r => if upAt hs z = upAt hs x then filtI hs z r else x :: filtI hs x r
theorem cyc_rotL (hs : List Int) (A B : List Nat) (lo hi : Int) : cyc (marks (hts hs (A ++ B)) lo hi) = cyc (marks (hts hs (B ++ A)) lo hi) := by
  unfold hts
  rw [List.map_append, List.map_append, marks_app, marks_app, cyc_rot]
theorem phase1 {hs : List Int} {lo hi : Int} (hlh : lo < hi) : ∀ (B A : List Nat) (z : Nat), Cl (R1 hs) (A ++ z :: B) →
    Cl (R1 hs) (A ++ z :: filtI hs z B) ∧ cyc (marks (hts hs (A ++ z :: filtI hs z B)) lo hi) = cyc (marks (hts hs (A ++ z :: B)) lo hi)
  | [], A, z, h => ⟨h, rfl⟩
  | x :: r, A, z, h => by
    unfold filtI
    by_cases e : upAt hs z = upAt hs x
    · rw [if_pos e]
      have h1 : Cl (R1 hs) ((z :: x :: r) ++ A) := cl_rot A (z :: x :: r) h
      have h2 : R1 hs z x ∧ Ch (R1 hs) x (r ++ A) z := h1
      have h3 : Ch (R1 hs) z (r ++ A) z := ch_start (fun y hy => r1_trans e h2.1 hy) _ h2.2
      have h4 : Cl (R1 hs) (A ++ z :: r) := cl_rot (z :: r) A h3
      have ih := phase1 hlh r A z h4
      refine ⟨ih.1, ih.2.trans ?_⟩
      -- x is between its neighbours
      have e1 := cyc_rotL hs A (z :: r) lo hi
      have e2 := cyc_rotL hs A (z :: x :: r) lo hi
      rw [e1, e2]
      have e3 := cyc_rotL hs [z] (r ++ A) lo hi
      have e4 := cyc_rotL hs [z] (x :: (r ++ A)) lo hi
      have e5 : (z :: r) ++ A = [z] ++ (r ++ A) := rfl
      have e6 : (z :: x :: r) ++ A = [z] ++ (x :: (r ++ A)) := rfl
      rw [e5, e6, e3, e4]
      obtain ⟨n, hn, hxn⟩ : ∃ n, (r ++ A ++ [z]).head? = some n ∧ R1 hs x n := by
        cases hra : r ++ A with
        | nil =>
          rw [hra] at h2
          exact ⟨z, rfl, h2.2⟩
        | cons y t =>
          rw [hra] at h2
          exact ⟨y, rfl, h2.2.1⟩
      show cyc (marks (hts hs (r ++ A ++ [z])) lo hi) = cyc (marks (hgt hs x :: hts hs (r ++ A ++ [z])) lo hi)
      refine (cyc_mid hlh (n := hgt hs n) (p := hgt hs z) ?_ ?_ ?_).symm
      · unfold hts
        rw [List.head?_map, hn]
        rfl
      · unfold hts
        rw [List.getLast?_map, List.getLast?_append]
        rfl
      · obtain ⟨a1, _⟩ := h2.1
        obtain ⟨a2, _⟩ := hxn
        rw [e] at a1
        cases hx : upAt hs x with
        | true =>
          rw [hx, if_pos rfl] at a1 a2
          exact .inl ⟨a1, a2⟩
        | false =>
          rw [hx, if_neg Bool.false_ne_true] at a1 a2
          exact .inr ⟨a2, a1⟩
    · rw [if_neg e]
      have h' : Cl (R1 hs) ((A ++ [z]) ++ x :: r) := by
        rw [List.append_assoc]
        exact h
      have ih := phase1 hlh r (A ++ [z]) x h'
      rw [List.append_assoc, List.append_assoc] at ih
      exact ih
theorem filt_alt {hs : List Int} : ∀ (B : List Nat) (z b : Nat), (∀ y, (z :: B).getLast? = some y → upAt hs y ≠ upAt hs b) → Ch (fun i j => upAt hs i ≠ upAt hs j) z (filtI hs z B) b
  | [], z, b, h => h z rfl
  | x :: r, z, b, h => by
    unfold filtI
    by_cases e : upAt hs z = upAt hs x
    · rw [if_pos e]
      refine filt_alt r z b ?_
      intro y hy
      cases r with
      | nil =>
        have : z = y := Option.some.inj hy
        subst this
        rw [e]
        exact h x rfl
      | cons t r =>
        refine h y ?_
        rw [List.getLast?_cons_cons] at hy ⊢
        rw [List.getLast?_cons_cons]
        exact hy
    · rw [if_neg e]
      refine ⟨e, filt_alt r x b ?_⟩
      intro y hy
      refine h y ?_
      rw [List.getLast?_cons_cons]
      exact hy
def R2 (hs : List Int) (i j : Nat) : Prop := upAt hs j = (!upAt hs i) ∧ (if upAt hs i = true then hgt hs i < hgt hs j else hgt hs j < hgt hs i)
theorem r2_of {hs : List Int} {i j : Nat} (h : R1 hs i j ∧ upAt hs i ≠ upAt hs j) : R2 hs i j := by
  obtain ⟨⟨h1, h2⟩, h3⟩ := h
  have h4 := h2 h3
  refine ⟨?_, ?_⟩
  · cases hi : upAt hs i <;> cases hj : upAt hs j
    · rw [hi, hj] at h3
      exact absurd rfl h3
    · rfl
    · rfl
    · rw [hi, hj] at h3
      exact absurd rfl h3
  · split at h1
    · rename_i hu
      rw [if_pos hu]
      omega
    · rename_i hu
      rw [if_neg hu]
      omega
theorem r2_irr {hs : List Int} (i : Nat) : ¬ R2 hs i i := by
  rintro ⟨h, _⟩
  cases hu : upAt hs i <;> rw [hu] at h <;> cases h
/-- filtI over places that follow one another -/
theorem filt_turns {hs : List Int} : ∀ (B : List Nat) (z b : Nat), z < hs.length → Ch (fun i j => pre_ hs.length j = i ∧ j < hs.length) z B b → filtI hs z B = B.filter (isTurn hs)
  | [], _, _, _, _ => rfl
  | x :: r, z, b, hz, h => by
    obtain ⟨⟨h1, h2⟩, h3⟩ := h
    unfold filtI
    have ht := turn_iff h2
    rw [h1] at ht
    by_cases e : upAt hs z = upAt hs x
    · rw [if_pos e, List.filter_cons_of_neg (by rw [ht, decide_eq_false (fun q => q e)]; exact Bool.false_ne_true)]
      rw [← filt_turns r x b h2 h3]
      -- the same with z in x's place
      have : ∀ (l : List Nat), filtI hs z l = filtI hs x l := by
        intro l
        induction l with
        | nil => rfl
        | cons y l ih =>
          unfold filtI
          rw [e, ih]
      exact this r
    · rw [if_neg e, List.filter_cons_of_pos (by rw [ht]; exact decide_eq_true e), filt_turns r x b h2 h3]
theorem range_cl (n : Nat) : Cl (fun i j => pre_ n j = i ∧ j < n) (List.range n) := by
  refine cl_of _ ?_
  intro i x y hy hx
  rw [List.length_range] at hx
  have hi : i < n := by
    have := (List.getElem?_eq_some_iff.mp hy).1
    rwa [List.length_range] at this
  rw [List.getElem?_range hi] at hy
  rw [List.getElem?_range (pre_lt hi)] at hx
  cases hy
  cases hx
  exact ⟨rfl, hi⟩
theorem ch_last {α : Type} {R : α → α → Prop} : ∀ (l : List α) (a b y : α), Ch R a l b → (a :: l).getLast? = some y → R y b
  | [], a, b, y, h, hy => by
    have : a = y := Option.some.inj hy
    subst this
    exact h
  | x :: l, a, b, y, h, hy => by
    rw [List.getLast?_cons_cons] at hy
    exact ch_last l x b y h.2 hy
theorem hts_range (hs : List Int) : hts hs (List.range hs.length) = hs := by
  refine List.ext_getElem? fun i => ?_
  unfold hts
  rw [List.getElem?_map]
  by_cases hi : i < hs.length
  · rw [List.getElem?_range hi, getElem_hgt hi]
    rfl
  · rw [List.getElem?_eq_none (by rw [List.length_range]; omega), List.getElem?_eq_none (by omega)]
    rfl
theorem cyc_one (lo hi x : Int) : cyc (marks [x] lo hi) = 0 := by
  rw [marks_cons]
  by_cases ho : outP lo hi x = true
  · rw [if_pos ho]
    show adj _ [_] = 0
    unfold adj rise
    cases decide (hi ≤ x) <;> rfl
  · rw [if_neg ho]
    rfl
/-- a ring passes as often as its turns do; the turns go up and down -/
theorem turns_zig {hs : List Int} : Cl (R2 hs) (turnsOf hs) ∧ ∀ lo hi : Int, lo < hi → cyc (marks hs lo hi) = cyc (marks (hts hs (turnsOf hs)) lo hi) := by
  have rc := range_cl hs.length
  have r1 : ∀ x y, (pre_ hs.length y = x ∧ y < hs.length) → R1 hs x y := by
    rintro x y ⟨rfl, hy⟩
    exact r1_pre hy
  cases ht : turnsOf hs with
  | nil =>
    refine ⟨trivial, ?_⟩
    intro lo hi hlh
    show _ = 0
    cases hn : hs.length with
    | zero =>
      have : hs = [] := List.eq_nil_of_length_eq_zero hn
      subst this
      rfl
    | succ n =>
      have er : List.range hs.length = 0 :: (List.range n).map (· + 1) := by
        rw [hn, List.range_succ_eq_map]
      have rc2 := rc
      rw [er] at rc2
      have p := phase1 hlh ((List.range n).map (· + 1)) [] 0 (ch_mono r1 _ _ _ rc2)
      rw [filt_turns _ 0 0 (by omega) rc2] at p
      have e : ((List.range n).map (· + 1)).filter (isTurn hs) = [] := by
        have h0 : (List.range hs.length).filter (isTurn hs) = [] := ht
        rw [er, List.filter_cons] at h0
        split at h0
        · cases h0
        · exact h0
      rw [e] at p
      have q := p.2
      rw [List.nil_append, List.nil_append, ← er, hts_range] at q
      rw [← q]
      exact cyc_one lo hi _
  | cons t0 rest =>
    obtain ⟨P, S, hr, hP, h0, hS⟩ := List.filter_eq_cons_iff.mp (show (List.range hs.length).filter (isTurn hs) = t0 :: rest from ht)
    have rc2 := rc
    rw [hr] at rc2
    have rc3 : Ch (fun i j => pre_ hs.length j = i ∧ j < hs.length) t0 (S ++ P) t0 := cl_rot P (t0 :: S) rc2
    have lt0 : t0 < hs.length := by
      have : t0 ∈ List.range hs.length := by
        rw [hr]
        simp
      exact List.mem_range.mp this
    have ef : filtI hs t0 (S ++ P) = rest := by
      rw [filt_turns _ t0 t0 lt0 rc3, List.filter_append, hS]
      have : P.filter (isTurn hs) = [] := by
        rw [List.filter_eq_nil_iff]
        exact hP
      rw [this, List.append_nil]
    have c1 : Cl (R1 hs) ([] ++ t0 :: (S ++ P)) := ch_mono r1 _ _ _ rc3
    have alt := filt_alt (hs := hs) (S ++ P) t0 t0 (by
      intro y hy
      obtain ⟨h1, _⟩ := ch_last _ _ _ _ rc3 hy
      have tt := turn_iff lt0
      rw [h0, h1] at tt
      exact of_decide_eq_true tt.symm)
    rw [ef] at alt
    have p0 := phase1 (lo := 0) (hi := 1) (by omega) (S ++ P) [] t0 c1
    rw [ef] at p0
    refine ⟨ch_mono (fun x y h => r2_of h) _ _ _ (ch_and _ _ _ p0.1 alt), ?_⟩
    intro lo hi hlh
    have p := (phase1 hlh (S ++ P) [] t0 c1).2
    rw [ef] at p
    rw [List.nil_append, List.nil_append] at p
    rw [p]
    have e := cyc_rotL hs P (t0 :: S) lo hi
    rw [← hr, hts_range] at e
    exact e

/-! ### the removal that takes the flattest neighbours first -/
def rangesOf (hs : List Int) (left : List Nat) : List Int := (List.range left.length).map fun i => absI (hgt hs (left.getD i 0) - hgt hs (left.getD (pre_ left.length i) 0))
def firstMin (ns : List Int) : Nat := ns.findIdx fun x => decide (∀ y ∈ ns, x ≤ y)
def atOf (hs : List Int) (left : List Nat) : Nat := firstMin (rangesOf hs left)
def valFirst (hs : List Int) (a b : Nat) : Nat × Nat := if hgt hs a < hgt hs b then (a, b) else (b, a)
def stepPair (hs : List Int) (left : List Nat) : Nat × Nat := valFirst hs (left.getD (pre_ left.length (atOf hs left)) 0) (left.getD (atOf hs left) 0)
def without (left : List Nat) (pr : Nat × Nat) : List Nat := left.filter fun t => !(decide (t = pr.1) || decide (t = pr.2))
def removalGo (hs : List Int) : Nat → List Nat → List (Nat × Nat)
  | 0, _ => []
  | n + 1, left => if left = [] then [] else stepPair hs left :: removalGo hs n (without left (stepPair hs left))
def removal (hs : List Int) : List (Nat × Nat) := removalGo hs (turnsOf hs).length (turnsOf hs)
theorem ranges_len (hs : List Int) (left : List Nat) : (rangesOf hs left).length = left.length := by
  unfold rangesOf
  rw [List.length_map, List.length_range]
theorem least_exists : ∀ ns : List Int, ns ≠ [] → ∃ m, m ∈ ns ∧ ∀ y ∈ ns, m ≤ y
  | [], h => absurd rfl h
  | [x], _ => ⟨x, by simp, by simp⟩
  | x :: y :: r, _ => by
    obtain ⟨m, h1, h2⟩ := least_exists (y :: r) (by simp)
    by_cases h : x ≤ m
    · refine ⟨x, by simp, ?_⟩
      intro z hz
      rcases List.mem_cons.mp hz with rfl | hz
      · exact Int.le_refl _
      · have := h2 z hz
        omega
    · refine ⟨m, List.mem_cons_of_mem _ h1, ?_⟩
      intro z hz
      rcases List.mem_cons.mp hz with rfl | hz
      · omega
      · exact h2 z hz
theorem firstMin_spec {ns : List Int} (h : ns ≠ []) : ∃ m, ns[firstMin ns]? = some m ∧ ∀ y ∈ ns, m ≤ y := by
  obtain ⟨m, h1, h2⟩ := least_exists ns h
  have hl : firstMin ns < ns.length := by
    unfold firstMin
    exact List.findIdx_lt_length_of_exists ⟨m, h1, decide_eq_true h2⟩
  refine ⟨ns[firstMin ns], List.getElem?_eq_getElem hl, ?_⟩
  have := List.findIdx_getElem (p := fun x => decide (∀ y ∈ ns, x ≤ y)) (w := hl)
  exact of_decide_eq_true this
theorem firstMin_unique {ns : List Int} {j : Nat} {m : Int} (h1 : ns[j]? = some m) (h2 : ∀ y ∈ ns, m ≤ y) (h3 : ∀ (j' : Nat) (x : Int), j' < j → ns[j']? = some x → x ≠ m) : firstMin ns = j := by
  obtain ⟨m', g1, g2⟩ := firstMin_spec (ns := ns) (by
    rintro rfl
    simp at h1)
  have e : m' = m := by
    have a := g2 m (List.mem_of_getElem? h1)
    have b := h2 m' (List.mem_of_getElem? g1)
    omega
  subst e
  have c1 : ¬ firstMin ns < j := fun z => h3 _ _ z g1 rfl
  have c2 : ¬ j < firstMin ns := by
    intro z
    have hj : j < ns.length := (List.getElem?_eq_some_iff.mp h1).1
    have := List.not_of_lt_findIdx (p := fun x => decide (∀ y ∈ ns, x ≤ y)) z
    have e2 : ns[j] = m' := (List.getElem?_eq_some_iff.mp h1).2
    rw [e2, decide_eq_true h2] at this
    cases this
  omega
/-- one step: q and r are neighbours, the rest is closed again -/
theorem step_facts {hs : List Int} {left : List Nat} (hc : Cl (R2 hs) left) (nd : left.Nodup) (hne : left ≠ []) :
    ∃ (q r : Nat) (A B : List Nat), (stepPair hs left = (q, r) ∧ hgt hs q < hgt hs r ∨ stepPair hs left = (r, q) ∧ hgt hs r < hgt hs q) ∧
      without left (stepPair hs left) = A ++ B ∧ Cl (R2 hs) (q :: r :: (B ++ A)) ∧ q ∈ left ∧ r ∈ left ∧ left.length = (A ++ B).length + 2 ∧
      (∃ m, m = absI (hgt hs r - hgt hs q) ∧ Cl (fun i j => m ≤ absI (hgt hs j - hgt hs i)) (q :: r :: (B ++ A))) ∧
      (∀ lo hi : Int, cyc (marks (hts hs left) lo hi) = cyc (marks (hts hs (q :: r :: (B ++ A))) lo hi)) := by
  have h2 : 2 ≤ left.length := by
    have h1 := cl_len (fun x => r2_irr x) hc
    have h0 : left.length ≠ 0 := fun z => hne (List.eq_nil_of_length_eq_zero z)
    omega
  have rne : rangesOf hs left ≠ [] := by
    intro z
    have := ranges_len hs left
    rw [z] at this
    simp at this
    omega
  obtain ⟨m, gm, hm⟩ := firstMin_spec rne
  have hat : atOf hs left < left.length := by
    have := (List.getElem?_eq_some_iff.mp gm).1
    rwa [ranges_len] at this
  have em : m = absI (hgt hs (left.getD (atOf hs left) 0) - hgt hs (left.getD (pre_ left.length (atOf hs left)) 0)) := by
    have gm2 : (rangesOf hs left)[atOf hs left]? = some m := gm
    generalize atOf hs left = k at gm2 hat ⊢
    unfold rangesOf at gm2
    rw [List.getElem?_map, List.getElem?_range hat] at gm2
    exact (Option.some.inj gm2).symm
  have dC : Cl (fun i j => m ≤ absI (hgt hs j - hgt hs i)) left := by
    refine cl_of _ ?_
    intro i x y hy hx
    have hi : i < left.length := (List.getElem?_eq_some_iff.mp hy).1
    have e1 : left.getD i 0 = y := by
      rw [List.getD_eq_getElem?_getD, hy]
      rfl
    have e2 : left.getD (pre_ left.length i) 0 = x := by
      rw [List.getD_eq_getElem?_getD, hx]
      rfl
    refine hm _ ?_
    unfold rangesOf
    refine List.mem_map.mpr ⟨i, List.mem_range.mpr hi, ?_⟩
    rw [e1, e2]
  unfold stepPair
  generalize atOf hs left = k at *
  -- the two and the rest
  obtain ⟨q, r, A, B, hq, hr, hrot, hwo, hl⟩ : ∃ (q r : Nat) (A B : List Nat), left.getD (pre_ left.length k) 0 = q ∧ left.getD k 0 = r ∧
      (∃ U W, left = U ++ W ∧ W ++ U = q :: r :: (B ++ A)) ∧ (left.filter fun t => !(decide (t = q) || decide (t = r))) = A ++ B ∧ left.length = (A ++ B).length + 2 := by
    by_cases hk : k = 0
    · subst hk
      cases left with
      | nil => exact absurd rfl hne
      | cons r0 t =>
        have tne : t ≠ [] := by
          rintro rfl
          simp at h2
        refine ⟨t.getLast tne, r0, [], t.dropLast, ?_, rfl, ⟨r0 :: t.dropLast, [t.getLast tne], ?_, ?_⟩, ?_, ?_⟩
        · unfold pre_
          have e1 : (r0 :: t).getLast? = (r0 :: t)[(r0 :: t).length - 1]? := List.getLast?_eq_getElem?
          rw [if_pos rfl, List.getD_eq_getElem?_getD, ← e1, List.getLast?_cons, List.getLast?_eq_getLast tne]
          rfl
        · rw [List.cons_append, List.dropLast_concat_getLast]
        · rw [List.append_nil]
          rfl
        · have e : r0 :: t = r0 :: (t.dropLast ++ [t.getLast tne]) := by rw [List.dropLast_concat_getLast]
          have nd' := nd
          rw [e] at nd'
          have n1 := (List.nodup_cons.mp nd').1
          have n2 := (List.nodup_append.mp (List.nodup_cons.mp nd').2).2.2
          rw [e, List.filter_cons_of_neg (by simp), List.filter_append, List.filter_cons_of_neg (by simp), List.filter_nil, List.append_nil, List.nil_append]
          refine List.filter_eq_self.mpr ?_
          intro x hx
          have c1 : x ≠ t.getLast tne := fun z => n2 x hx _ (by simp) z
          have c2 : x ≠ r0 := fun z => n1 (z ▸ List.mem_append_left _ hx)
          simp [c1, c2]
        · rw [List.nil_append, List.length_dropLast, List.length_cons]
          have : t.length ≠ 0 := fun z => tne (List.eq_nil_of_length_eq_zero z)
          omega
    · have hk1 : k - 1 < left.length := by omega
      have hk2 : k - 1 + 1 < left.length := by omega
      have e0 : left = left.take (k - 1) ++ left[k - 1] :: left[k - 1 + 1] :: left.drop (k - 1 + 1 + 1) := by
        rw [← List.drop_eq_getElem_cons hk2, ← List.drop_eq_getElem_cons hk1, List.take_append_drop]
      have ek : k - 1 + 1 = k := by omega
      refine ⟨left[k - 1], left[k - 1 + 1], left.take (k - 1), left.drop (k - 1 + 1 + 1), ?_, ?_, ⟨left.take (k - 1), left[k - 1] :: left[k - 1 + 1] :: left.drop (k - 1 + 1 + 1), e0, rfl⟩, ?_, ?_⟩
      · unfold pre_
        rw [if_neg hk, List.getD_eq_getElem?_getD, List.getElem?_eq_getElem hk1]
        rfl
      · rw [List.getD_eq_getElem?_getD, show left[k]? = left[k - 1 + 1]? by rw [ek], List.getElem?_eq_getElem hk2]
        rfl
      · generalize left.take (k - 1) = A at e0
        generalize left.drop (k - 1 + 1 + 1) = B at e0
        generalize left[k - 1] = q at e0
        generalize left[k - 1 + 1] = r at e0
        have nd' := nd
        rw [e0] at nd'
        obtain ⟨n1, n2, n3⟩ := List.nodup_append.mp nd'
        obtain ⟨n4, n5⟩ := List.nodup_cons.mp n2
        obtain ⟨n6, n7⟩ := List.nodup_cons.mp n5
        rw [e0, List.filter_append, List.filter_cons_of_neg (by simp), List.filter_cons_of_neg (by simp)]
        congr 1
        · refine List.filter_eq_self.mpr ?_
          intro x hx
          have c1 : x ≠ q := n3 x hx q (by simp)
          have c2 : x ≠ r := n3 x hx r (by simp)
          simp [c1, c2]
        · refine List.filter_eq_self.mpr ?_
          intro x hx
          have c1 : x ≠ q := fun z => n4 (List.mem_cons_of_mem _ (z ▸ hx))
          have c2 : x ≠ r := fun z => n6 (z ▸ hx)
          simp [c1, c2]
      · rw [List.length_append, List.length_take, List.length_drop]
        omega
  rw [hq, hr]
  obtain ⟨U, W, hU, hW⟩ := hrot
  have c2 : Cl (R2 hs) (q :: r :: (B ++ A)) := by
    rw [← hW]
    refine cl_rot U W ?_
    rw [← hU]
    exact hc
  have hqr : R2 hs q r := c2.1
  have wo : ∀ a b : Nat, (a = q ∧ b = r) ∨ (a = r ∧ b = q) → without left (a, b) = A ++ B := by
    intro a b h
    unfold without
    rcases h with ⟨rfl, rfl⟩ | ⟨rfl, rfl⟩
    · exact hwo
    · rw [← hwo]
      congr 1
      funext t
      rw [Bool.or_comm]
  have memq : q ∈ left := by
    rw [hU]
    have : q ∈ W ++ U := by
      rw [hW]
      simp
    rcases List.mem_append.mp this with h | h
    · exact List.mem_append_right _ h
    · exact List.mem_append_left _ h
  have memr : r ∈ left := by
    rw [hU]
    have : r ∈ W ++ U := by
      rw [hW]
      simp
    rcases List.mem_append.mp this with h | h
    · exact List.mem_append_right _ h
    · exact List.mem_append_left _ h
  refine ⟨q, r, A, B, ?_, ?_, c2, memq, memr, hl, ⟨m, ?_, ?_⟩, ?_⟩
  · unfold valFirst
    by_cases h : hgt hs q < hgt hs r
    · rw [if_pos h]
      exact .inl ⟨rfl, h⟩
    · rw [if_neg h]
      refine .inr ⟨rfl, ?_⟩
      have := hqr.2
      split at this <;> omega
  · unfold valFirst
    split
    · exact wo q r (.inl ⟨rfl, rfl⟩)
    · exact wo r q (.inr ⟨rfl, rfl⟩)
  · rw [em, hq, hr]
  · rw [← hW]
    refine cl_rot U W ?_
    rw [← hU]
    exact dC
  · intro lo hi
    rw [hU, ← hW]
    exact cyc_rotL hs U W lo hi
end RS

set_option Elab.async false
set_option linter.all false
set_option maxRecDepth 100000
namespace RS
open PySem PySem.Spec PyProof.Rows L2
/-! ### what a step of the removal leaves -/
theorem absI_nonneg (x : Int) : 0 ≤ absI x := by
  unfold absI
  split <;> omega
theorem step_rest {hs : List Int} {q r : Nat} {S : List Nat} (hc : Cl (R2 hs) (q :: r :: S)) (hd : Cl (fun i j => absI (hgt hs r - hgt hs q) ≤ absI (hgt hs j - hgt hs i)) (q :: r :: S)) :
    Cl (R2 hs) S ∧ ∀ lo hi : Int, lo < hi → cyc (marks (hts hs (q :: r :: S)) lo hi) = cyc (marks (hts hs S) lo hi) + (if hgt hs q < hgt hs r then inSw lo hi (hgt hs q) (hgt hs r) else inSw lo hi (hgt hs r) (hgt hs q)) := by
  obtain ⟨h1, h2⟩ := hc
  obtain ⟨_, d2⟩ := hd
  cases S with
  | nil =>
    refine ⟨trivial, ?_⟩
    intro lo hi hlh
    show cyc (marks [hgt hs q, hgt hs r] lo hi) = 0 + _
    rw [Nat.zero_add]
    by_cases h : hgt hs q < hgt hs r
    · rw [if_pos h]
      exact (cyc_two hlh h).1
    · rw [if_neg h]
      have h' : hgt hs r < hgt hs q := by
        have := h1.2
        split at this <;> omega
      exact (cyc_two hlh h').2
  | cons s T =>
    obtain ⟨rs, hT⟩ := h2
    obtain ⟨dr, dT⟩ := d2
    obtain ⟨p, hp⟩ : ∃ p, (s :: T).getLast? = some p := ⟨_, List.getLast?_eq_getLast (List.cons_ne_nil s T)⟩
    have pq := ch_last _ _ _ _ hT hp
    have dp := ch_last _ _ _ _ dT hp
    have fact : (hgt hs q < hgt hs r → hgt hs r ≤ hgt hs p ∧ hgt hs s ≤ hgt hs q) ∧ (hgt hs r < hgt hs q → hgt hs p ≤ hgt hs r ∧ hgt hs q ≤ hgt hs s) ∧ R2 hs p s := by
      unfold R2 at *
      unfold absI at dr dp
      generalize hgt hs q = a at *
      generalize hgt hs r = b at *
      generalize hgt hs p = c at *
      generalize hgt hs s = e at *
      cases hu : upAt hs p with
      | true =>
        rw [hu] at pq
        have uq : upAt hs q = false := pq.1
        rw [uq] at h1
        have ur : upAt hs r = true := h1.1
        rw [ur] at rs
        rw [if_pos rfl] at pq rs
        rw [if_neg Bool.false_ne_true] at h1
        have i1 := pq.2
        have i2 := h1.2
        have i3 := rs.2
        have k1 : c ≤ b := by
          split at dp <;> split at dp <;> omega
        have k2 : a ≤ e := by
          split at dr <;> split at dr <;> omega
        refine ⟨fun z => by omega, fun _ => ⟨k1, k2⟩, rs.1, ?_⟩
        rw [if_pos rfl]
        omega
      | false =>
        rw [hu] at pq
        have uq : upAt hs q = true := pq.1
        rw [uq] at h1
        have ur : upAt hs r = false := h1.1
        rw [ur] at rs
        rw [if_neg Bool.false_ne_true] at pq rs
        rw [if_pos rfl] at h1
        have i1 := pq.2
        have i2 := h1.2
        have i3 := rs.2
        have k1 : b ≤ c := by
          split at dp <;> split at dp <;> omega
        have k2 : e ≤ a := by
          split at dr <;> split at dr <;> omega
        refine ⟨fun _ => ⟨k1, k2⟩, fun z => by omega, rs.1, ?_⟩
        rw [if_neg Bool.false_ne_true]
        omega
    obtain ⟨f1, f2, f3⟩ := fact
    have lastR : ∀ x, (s :: T).getLast? = some x → x = p := fun x hx => by
      rw [hp] at hx
      exact (Option.some.inj hx).symm
    constructor
    · -- closed again
      show Ch (R2 hs) s T s
      have gen : ∀ (l : List Nat) (a b b' : Nat), Ch (R2 hs) a l b → (∀ y, (a :: l).getLast? = some y → R2 hs y b') → Ch (R2 hs) a l b' := by
        intro l
        induction l with
        | nil =>
          intro a b b' _ h
          exact h a rfl
        | cons x l ih =>
          intro a b b' h h'
          refine ⟨h.1, ih x b b' h.2 fun y hy => h' y ?_⟩
          rw [List.getLast?_cons_cons]
          exact hy
      refine gen T s q s hT ?_
      intro y hy
      rw [lastR y hy]
      exact f3
    · intro lo hi hlh
      have hh : (hts hs (s :: T)).head? = some (hgt hs s) := rfl
      have hl : (hts hs (s :: T)).getLast? = some (hgt hs p) := by
        unfold hts
        rw [List.getLast?_map, hp]
        rfl
      by_cases h : hgt hs q < hgt hs r
      · rw [if_pos h]
        obtain ⟨k1, k2⟩ := f1 h
        exact cyc_pair hlh hh hl h k1 k2
      · rw [if_neg h]
        have h' : hgt hs r < hgt hs q := by
          have := h1.2
          split at this <;> omega
        obtain ⟨k1, k2⟩ := f2 h'
        exact cyc_pair' hlh hh hl h' k1 k2
def swCount (sw : List (Int × Int)) (lo hi : Int) : Nat := (sw.map fun s => inSw lo hi s.1 s.2).sum
def hPair (hs : List Int) (pr : Nat × Nat) : Int × Int := (hgt hs pr.1, hgt hs pr.2)
structure RemOk (hs : List Int) (left : List Nat) (prs : List (Nat × Nat)) : Prop where
  cnt : ∀ lo hi : Int, lo < hi → cyc (marks (hts hs left) lo hi) = swCount (prs.map (hPair hs)) lo hi
  mem : ∀ pr ∈ prs, pr.1 ∈ left ∧ pr.2 ∈ left ∧ hgt hs pr.1 < hgt hs pr.2
  len : 2 * prs.length = left.length
theorem step_next {hs : List Int} {left : List Nat} (hc : Cl (R2 hs) left) (nd : left.Nodup) (hne : left ≠ []) :
    Cl (R2 hs) (without left (stepPair hs left)) ∧ (without left (stepPair hs left)).Nodup ∧ (without left (stepPair hs left)).length + 2 = left.length ∧
    (stepPair hs left).1 ∈ left ∧ (stepPair hs left).2 ∈ left ∧ hgt hs (stepPair hs left).1 < hgt hs (stepPair hs left).2 ∧
    ∀ lo hi : Int, lo < hi → cyc (marks (hts hs left) lo hi) = inSw lo hi (hgt hs (stepPair hs left).1) (hgt hs (stepPair hs left).2) + cyc (marks (hts hs (without left (stepPair hs left))) lo hi) := by
  obtain ⟨q, r, A, B, hpr, hwo, c2, mq, mr, hl, ⟨m, em, dC⟩, hcy⟩ := step_facts hc nd hne
  subst em
  obtain ⟨c3, hcount⟩ := step_rest c2 dC
  have nd2 : (without left (stepPair hs left)).Nodup := nd.filter _
  refine ⟨?_, nd2, ?_, ?_, ?_, ?_, ?_⟩
  · rw [hwo]
    exact cl_rot B A c3
  · rw [hwo]
    omega
  · rcases hpr with ⟨e, _⟩ | ⟨e, _⟩ <;> rw [e]
    · exact mq
    · exact mr
  · rcases hpr with ⟨e, _⟩ | ⟨e, _⟩ <;> rw [e]
    · exact mr
    · exact mq
  · rcases hpr with ⟨e, h⟩ | ⟨e, h⟩ <;> rw [e] <;> exact h
  · intro lo hi hlh
    rw [hcy, hcount lo hi hlh, hwo, cyc_rotL hs A B lo hi]
    rcases hpr with ⟨e, h⟩ | ⟨e, h⟩
    · rw [e, if_pos h]
      exact Nat.add_comm _ _
    · rw [e, if_neg (by omega)]
      exact Nat.add_comm _ _
theorem rem_ok {hs : List Int} : ∀ (n : Nat) (left : List Nat), left.length ≤ n → Cl (R2 hs) left → left.Nodup → RemOk hs left (removalGo hs n left)
  | 0, left, hn, _, _ => by
    have : left = [] := List.eq_nil_of_length_eq_zero (by omega)
    subst this
    exact ⟨fun _ _ _ => rfl, (fun pr h => nomatch h), rfl⟩
  | n + 1, left, hn, hc, nd => by
    unfold removalGo
    by_cases hne : left = []
    · rw [if_pos hne]
      subst hne
      exact ⟨fun _ _ _ => rfl, (fun pr h => nomatch h), rfl⟩
    · rw [if_neg hne]
      obtain ⟨s1, s2, s3, s4, s5, s6, s7⟩ := step_next hc nd hne
      have ih := rem_ok n (without left (stepPair hs left)) (by omega) s1 s2
      refine ⟨?_, ?_, ?_⟩
      · intro lo hi hlh
        rw [s7 lo hi hlh, ih.cnt lo hi hlh]
        unfold swCount
        rw [List.map_cons, List.map_cons, List.sum_cons]
        rfl
      · intro pr hpr
        rcases List.mem_cons.mp hpr with rfl | hpr
        · exact ⟨s4, s5, s6⟩
        · obtain ⟨a, b, c⟩ := ih.mem pr hpr
          exact ⟨(List.mem_filter.mp a).1, (List.mem_filter.mp b).1, c⟩
      · have := ih.len
        rw [List.length_cons]
        omega
theorem turns_nodup (hs : List Int) : (turnsOf hs).Nodup := by
  unfold turnsOf
  exact List.nodup_range.filter _
theorem removal_ok (hs : List Int) : RemOk hs (turnsOf hs) (removal hs) := rem_ok _ _ (Nat.le_refl _) turns_zig.1 (turns_nodup hs)

/-! ### the swings -/
def lexLe (a b : Int × Int) : Bool := decide (a.1 < b.1 ∨ (a.1 = b.1 ∧ a.2 ≤ b.2))
def swingsL (hs : List Int) : List (Int × Int) := (removal hs).map (hPair hs)
def swingsOf (hs : List Int) : List (Int × Int) := (swingsL hs).mergeSort lexLe
theorem lex_trans (a b c : Int × Int) (h1 : lexLe a b = true) (h2 : lexLe b c = true) : lexLe a c = true := by
  unfold lexLe at *
  have h1 := of_decide_eq_true h1
  have h2 := of_decide_eq_true h2
  refine decide_eq_true ?_
  omega
theorem lex_total (a b : Int × Int) : (lexLe a b || lexLe b a) = true := by
  unfold lexLe
  by_cases h : a.1 < b.1 ∨ (a.1 = b.1 ∧ a.2 ≤ b.2)
  · rw [decide_eq_true h]
    rfl
  · rw [decide_eq_true (show b.1 < a.1 ∨ (b.1 = a.1 ∧ b.2 ≤ a.2) by omega), Bool.or_true]
theorem lex_anti {a b : Int × Int} (h1 : lexLe a b = true) (h2 : lexLe b a = true) : a = b := by
  unfold lexLe at *
  have h1 := of_decide_eq_true h1
  have h2 := of_decide_eq_true h2
  refine Prod.ext ?_ ?_ <;> omega
theorem swings_perm (hs : List Int) : (swingsOf hs).Perm (swingsL hs) := List.mergeSort_perm _ _
theorem swings_sorted (hs : List Int) : (swingsOf hs).Pairwise fun a b => lexLe a b = true := List.pairwise_mergeSort lex_trans lex_total _
theorem sorted_one : ∀ {l m : List (Int × Int)}, l.Perm m → (l.Pairwise fun a b => lexLe a b = true) → (m.Pairwise fun a b => lexLe a b = true) → l = m
  | [], m, p, _, _ => (List.nil_perm.mp p).symm
  | a :: l, [], p, _, _ => absurd (List.perm_nil.mp p) (by simp)
  | a :: l, b :: m, p, hl, hm => by
    have e : a = b := by
      rw [List.pairwise_cons] at hl hm
      have ha : a ∈ b :: m := p.mem_iff.mp (by simp)
      have hb : b ∈ a :: l := p.mem_iff.mpr (by simp)
      rcases List.mem_cons.mp ha with h | h
      · exact h
      · rcases List.mem_cons.mp hb with h' | h'
        · exact h'.symm
        · exact lex_anti (hl.1 b h') (hm.1 a h)
    subst e
    rw [sorted_one ((List.perm_cons a).mp p) (List.pairwise_cons.mp hl).2 (List.pairwise_cons.mp hm).2]
theorem swCount_perm {l m : List (Int × Int)} (p : l.Perm m) (lo hi : Int) : swCount l lo hi = swCount m lo hi := by
  unfold swCount
  exact (p.map _).sum_nat
theorem swings_count {hs : List Int} {lo hi : Int} (hlh : lo < hi) : swCount (swingsOf hs) lo hi = cyc (marks hs lo hi) := by
  rw [swCount_perm (swings_perm hs), turns_zig.2 lo hi hlh, (removal_ok hs).cnt lo hi hlh]
  rfl
theorem swings_mem {hs : List Int} : ∀ s ∈ swingsOf hs, s.1 ∈ hs ∧ s.2 ∈ hs ∧ s.1 < s.2 := by
  intro s hs'
  obtain ⟨pr, hpr, rfl⟩ := List.mem_map.mp ((swings_perm hs).mem_iff.mp hs')
  obtain ⟨a, b, c⟩ := (removal_ok hs).mem pr hpr
  have m : ∀ i, i ∈ turnsOf hs → hgt hs i ∈ hs := by
    intro i hi
    exact List.mem_of_getElem? (getElem_hgt (turns_lt i hi))
  exact ⟨m _ a, m _ b, c⟩
theorem swings_len (hs : List Int) : 2 * (swingsOf hs).length = (turnsOf hs).length := by
  rw [(swings_perm hs).length_eq]
  unfold swingsL
  rw [List.length_map]
  exact (removal_ok hs).len
end RS

set_option Elab.async false
set_option linter.all false
set_option maxRecDepth 100000
namespace RS
open PySem PySem.Spec PyProof.Rows L2
theorem notInK {X : Cx} (K : PySem.W.Frag) (h : X.K = K := by rfl) : OpR X (compareOp .NotIn) (rIn K true) := h ▸ op_notIn_seq
theorem natInts_get {left : List Nat} {i : Nat} {t : Nat} (h : left[i]? = some t) : (natInts left)[i]? = some (t : Int) := by
  unfold natInts
  rw [List.getElem?_map, h]
  rfl
theorem natInts_len (left : List Nat) : (natInts left).length = left.length := List.length_map ..
theorem natInts_prev {left : List Nat} {i : Nat} (hi : i < left.length) : prevOf (natInts left) i = ((left.getD (pre_ left.length i) 0 : Nat) : Int) := by
  have hp := pre_lt hi
  unfold prevOf
  rw [natInts_len]
  show (natInts left).getD (pre_ left.length i) 0 = _
  rw [List.getD_eq_getElem?_getD, natInts_get (List.getElem?_eq_getElem hp), List.getD_eq_getElem?_getD, List.getElem?_eq_getElem hp]
  rfl
theorem getD_mem {left : List Nat} {i : Nat} (hi : i < left.length) : left.getD i 0 ∈ left := by
  rw [List.getD_eq_getElem?_getD, List.getElem?_eq_getElem hi]
  exact List.getElem_mem hi
theorem at_hgt {hs : List Int} {t : Nat} (ht : t < hs.length) : atI (hs.map V.int) (t : Int) = some (.int (hgt hs t)) := atI_nat (map_get (getElem_hgt ht))
theorem ranges_get {hs : List Int} {left : List Nat} {i t : Nat} (h : left[i]? = some t) :
    (rangesOf hs left)[i]? = some (absI (hgt hs t - hgt hs (left.getD (pre_ left.length i) 0))) := by
  have hi : i < left.length := (List.getElem?_eq_some_iff.mp h).1
  unfold rangesOf
  rw [List.getElem?_map, List.getElem?_range hi]
  show some (absI (hgt hs (left.getD i 0) - _)) = _
  rw [List.getD_eq_getElem?_getD, h]
  rfl
theorem flat_ints (ns : List Int) : (ns.map V.int).all flatV = true := by
  rw [List.all_map]
  exact List.all_eq_true.mpr fun _ _ => rfl
theorem firstMin_lt {ns : List Int} {j : Nat} {x : Int} (h : j < firstMin ns) (hx : ns[j]? = some x) : ¬ ∀ y ∈ ns, x ≤ y := by
  intro hz
  have hj : j < ns.length := (List.getElem?_eq_some_iff.mp hx).1
  have := List.not_of_lt_findIdx (p := fun x => decide (∀ y ∈ ns, x ≤ y)) h
  have e2 : ns[j] = x := (List.getElem?_eq_some_iff.mp hx).2
  rw [e2, decide_eq_true hz] at this
  cases this
def pairInts (prs : List (Nat × Nat)) : List (List Int) := prs.map fun pr => [(pr.1 : Int), (pr.2 : Int)]
def swInts (sw : List (Int × Int)) : List (List Int) := sw.map fun s => [s.1, s.2]
theorem removalGo_step {hs : List Int} {n : Nat} {left : List Nat} (hne : left ≠ []) (hn : left.length ≤ n) :
    removalGo hs n left = stepPair hs left :: removalGo hs (n - 1) (without left (stepPair hs left)) := by
  cases n with
  | zero =>
    have : left = [] := List.eq_nil_of_length_eq_zero (by omega)
    exact absurd this hne
  | succ n =>
    show (if left = [] then [] else stepPair hs left :: removalGo hs n (without left (stepPair hs left))) = _
    rw [if_neg hne]
    rfl
theorem removalGo_nil (hs : List Int) (n : Nat) : removalGo hs n [] = [] := by
  cases n with
  | zero => rfl
  | succ n => rfl
theorem without_take {left : List Nat} {pr : Nat × Nat} {j t : Nat} (h : left[j]? = some t) :
    without (left.take (j + 1)) pr = without (left.take j) pr ++ (if (!(decide (t = pr.1) || decide (t = pr.2))) = true then [t] else []) := by
  unfold without
  rw [List.take_add_one, h, List.filter_append]
  congr 1
  show List.filter _ [t] = _
  rw [List.filter_cons]
  split <;> rfl
theorem inV_pair (t v p : Nat) : inV (.int (t : Int)) [V.int (v : Int), V.int (p : Int)] = (decide (t = v) || decide (t = p)) := by
  unfold inV
  rw [List.any_cons, List.any_cons, List.any_nil, Bool.or_false]
  show ((v : Int) == (t : Int) || (p : Int) == (t : Int)) = _
  congr 1
  · by_cases h : t = v
    · subst h
      simp
    · rw [decide_eq_false h]
      exact beq_eq_false_iff_ne.mpr (fun z => h (by omega))
  · by_cases h : t = p
    · subst h
      simp
    · rw [decide_eq_false h]
      exact beq_eq_false_iff_ne.mpr (fun z => h (by omega))
end RS

set_option Elab.async false
set_option linter.all false
set_option maxRecDepth 100000
namespace RS
open PySem PySem.Spec PyProof.Rows L2
/-! ### sorted of a list of pairs that stand in the heap -/
def keyV (H : Hp) (x : V) : Int × Int := match x with
  | .ref t => match H t with
    | some (.tup [.int a, .int b]) => (a, b)
    | _ => (0, 0)
  | _ => (0, 0)
def Pairs (H : Hp) (qs : List Addr) (sw : List (Int × Int)) : Prop := qs.length = sw.length ∧ ∀ (i : Nat) (q : Addr) (s : Int × Int), qs[i]? = some q → sw[i]? = some s → H q = some (.tup [.int s.1, .int s.2])
theorem key_of {H : Hp} {t : Addr} {s : Int × Int} (h : H t = some (.tup [.int s.1, .int s.2])) : keyV H (.ref t) = s := by
  show (match H t with
    | some (.tup [.int a, .int b]) => (a, b)
    | _ => (0, 0)) = s
  rw [h]
theorem Pairs.keys {H : Hp} {qs : List Addr} {sw : List (Int × Int)} (p : Pairs H qs sw) : (qs.map V.ref).map (keyV H) = sw := by
  refine List.ext_getElem? fun i => ?_
  rw [List.getElem?_map, List.getElem?_map]
  cases hq : qs[i]? with
  | none =>
    have : sw[i]? = none := by
      rw [List.getElem?_eq_none_iff] at hq ⊢
      rw [← p.1]
      exact hq
    rw [this]
    rfl
  | some q =>
    have hi : i < sw.length := by
      rw [← p.1]
      exact (List.getElem?_eq_some_iff.mp hq).1
    obtain ⟨s, hs⟩ : ∃ s, sw[i]? = some s := ⟨_, List.getElem?_eq_getElem hi⟩
    rw [hs]
    exact congrArg some (key_of (p.2 i q s hq hs))
theorem Pairs.mem {H : Hp} {qs : List Addr} {sw : List (Int × Int)} (p : Pairs H qs sw) : ∀ x ∈ qs.map V.ref, ∃ t, x = V.ref t ∧ H t = some (.tup [.int (keyV H x).1, .int (keyV H x).2]) := by
  intro x hx
  obtain ⟨q, hq, rfl⟩ := List.mem_map.mp hx
  obtain ⟨i, hi⟩ := List.mem_iff_getElem?.mp hq
  have hl : i < sw.length := by
    rw [← p.1]
    exact (List.getElem?_eq_some_iff.mp hi).1
  obtain ⟨s, hs⟩ : ∃ s, sw[i]? = some s := ⟨_, List.getElem?_eq_getElem hl⟩
  have h := p.2 i q s hi hs
  refine ⟨q, rfl, ?_⟩
  rw [key_of h]
  exact h
def addrV : V → Addr
  | .ref t => t
  | _ => 0
/-- what sorted gives of them -/
theorem Pairs.sorted {H : Hp} {qs : List Addr} {sw : List (Int × Int)} (p : Pairs H qs sw) {ys : List V} (h1 : SrtO.Srtd (ltP (keyV H)) ys) (h2 : ys.Perm (qs.map V.ref)) :
    ∃ ps : List Addr, ys = ps.map V.ref ∧ Pairs H ps (sw.mergeSort lexLe) := by
  have hr : ∀ x ∈ ys, ∃ t, x = V.ref t ∧ H t = some (.tup [.int (keyV H x).1, .int (keyV H x).2]) := fun x hx => p.mem x (h2.mem_iff.mp hx)
  refine ⟨ys.map addrV, ?_, ?_⟩
  · rw [List.map_map]
    have e : ys.map (V.ref ∘ addrV) = ys.map id := by
      refine List.map_congr_left ?_
      intro x hx
      obtain ⟨t, rfl, _⟩ := hr x hx
      rfl
    rw [e, List.map_id]
  · have ek : ys.map (keyV H) = sw.mergeSort lexLe := by
      refine sorted_one ?_ ?_ (List.pairwise_mergeSort lex_trans lex_total _)
      · have := h2.map (keyV H)
        rw [p.keys] at this
        exact this.trans (List.mergeSort_perm _ _).symm
      · refine List.pairwise_map.mpr (h1.imp ?_)
        intro x y hxy
        have := SrtO.lexB_no.mp hxy
        unfold lexLe
        refine decide_eq_true ?_
        omega
    refine ⟨?_, ?_⟩
    · rw [List.length_map, ← ek, List.length_map]
    · intro i q s hq hs
      rw [← ek, List.getElem?_map] at hs
      rw [List.getElem?_map] at hq
      cases hy : ys[i]? with
      | none =>
        rw [hy] at hq
        cases hq
      | some y =>
        rw [hy] at hq hs
        obtain ⟨t, rfl, ht⟩ := hr y (List.mem_of_getElem? hy)
        cases hq
        cases hs
        exact ht
theorem Pairs.same {H H' : Hp} {qs : List Addr} {sw : List (Int × Int)} (p : Pairs H qs sw) (s : Same H H') : Pairs H' qs sw := ⟨p.1, fun i q t h1 h2 => s _ _ (p.2 i q t h1 h2)⟩
theorem Pairs.tups {K : PySem.W.Frag} {H : Hp} {qs : List Addr} {sw : List (Int × Int)} (p : Pairs H qs sw) : Tups K H qs (swInts sw) := by
  refine ⟨?_, ?_⟩
  · unfold swInts
    rw [List.length_map]
    exact p.1
  · intro i q ts hq ht
    unfold swInts at ht
    rw [List.getElem?_map] at ht
    cases hs : sw[i]? with
    | none =>
      rw [hs] at ht
      cases ht
    | some s =>
      rw [hs] at ht
      cases ht
      exact SqT.of (p.2 i q s hq hs)
end RS

set_option Elab.async false
set_option linter.all false
set_option maxRecDepth 100000
namespace RS
open PySem PySem.Spec PyProof.Rows L2
/-! ### sorted of a tuple of pairs -/
section
variable {prog : Program} {w : World} {A : Around} {E : Value → Shared → Prop} {s : Shared}
theorem collect_tup {l : Addr} {vs : List Value} {Q : List Value → Shared → Prop} (ht : s.heap.IsTuple l vs.toArray)
    (h : ∀ h', (∀ b o, s.heap.get? b = some o → h'.get? b = some o) → s.heap.objs.size ≤ h'.objs.size → Q vs { s with heap := h' })
    (hsz : vs.length ≤ sizeLine) : wpAny (model prog w) A (collect (.ref l)) Q E s := by
  obtain ⟨o, ho, hc, n, hd⟩ := ht
  unfold collect
  refine wpAny_bind (wpAny_runValue (codeAny_builtin entry_proto_collect' ?_))
  show wpAny _ _ (do again (.builtin "list.__iadd__" ⟨[← newList [], .ref l], []⟩)) _ _ s
  refine wpAny_bind (wpAny_newList ?_)
  refine wpAny_pure ⟨Code.quiet_builtin _ (by decide +kernel), codeAny_builtin entry_list_iadd' ?_⟩
  show wpAny _ _ (Builtin.List.listExtendWith (.ref s.heap.objs.size) (.ref l) (.ref s.heap.objs.size)) _ _ { s with heap := s.heap.push (seqObj "list" #[] 0) }
  unfold Builtin.List.listExtendWith
  have ho2 : (s.heap.push (seqObj "list" #[] 0)).get? l = some o := Heap.get?_push_of_some _ ho
  have new : (s.heap.push (seqObj "list" #[] 0)).get? s.heap.objs.size = some (seqObj "list" #[] 0) := Heap.get?_push_size _ rfl
  refine wpAny_bind (wpAny_typeOf (T := "tuple") ⟨o, ho2, hc⟩ ?_)
  have c1 : (Value.type "tuple" == Value.type "tuple") = true := by rfl
  rw [if_pos (by rw [c1]; simp)]
  refine wpAny_bind (listItems_at ho2 hd ?_)
  refine wpAny_bind (listItems_at (xs := #[]) (n := 0) new rfl ?_)
  rw [if_neg (by simp)]
  refine wpAny_bind (listUpdate_at (xs := #[]) (n := 0) new rfl ?_ (Nat.zero_le _) ?_)
  · refine wpAny_pure ?_
    show wpAny (model prog w) A (load s.heap.objs.size >>= _) _ _ _
    refine wpAny_bind (wpAny_load (get?_update_seq new _) ?_)
    refine wpAny_pure ?_
    show Q (#[] ++ vs.toArray).toList _
    have e : (#[] ++ vs.toArray : Array Value).toList = vs := by simp
    rw [e]
    refine h _ ?_ ?_
    · intro b o' hb
      exact (Heap.get?_update_ne _ _ _ _ (Nat.ne_of_lt (Heap.lt_size hb))).trans (Heap.get?_push_of_some _ hb)
    · rw [Heap.size_update, size_push']
      exact Nat.le_succ _
  · show (#[] ++ vs.toArray : Array Value).size ≤ sizeLine + 1
    simp only [Array.size_append, List.size_toArray, List.length_nil]
    omega
theorem sorted_pairsT {l : Addr} {vs : List Value} {k : Value → Int × Int} {Q : Value → Shared → Prop} (ht : s.heap.IsTuple l vs.toArray)
    (hz : vs.length ≤ sizeLine) (hp : ∀ v ∈ vs, Srt.IsPair s.heap v (k v).1 (k v).2)
    (h : ∀ (h' : Heap) (d : Addr) (out : List Value), SrtO.Srtd (fun v u => SrtO.lexB (k v) (k u)) out → SrtO.Stb (fun v u => SrtO.lexB (k v) (k u)) out vs →
      (∀ b o, s.heap.get? b = some o → h'.get? b = some o) → s.heap.objs.size ≤ d → (∃ n, h'.get? d = some (seqObj "list" out.toArray n)) → Q (.ref d) { s with heap := h' }) :
    wpAny (model prog w) A (call (.builtin "sorted") [.ref l]) Q E s := by
  refine Calls.call_function_entry kind_sorted plain_sorted entry_sorted (args_sorted1 _) ?_
  unfold Builtin.«sorted»
  refine wpAny_bind (m := checkCount "sorted" 1 1 _) (wpAny_pure ?_)
  refine wpAny_bind (collect_tup ht ?_ hz)
  intro h1 k1 sz
  refine wpAny_bind (wpAny_newList ?_ hz)
  have at1 : (h1.push (seqObj "list" vs.toArray 0)).get? h1.objs.size = some (seqObj "list" vs.toArray 0) := Heap.get?_push_size _ rfl
  have old1 : ∀ b o, s.heap.get? b = some o → (h1.push (seqObj "list" vs.toArray 0)).get? b = some o := fun b o e => Heap.get?_push_of_some _ (k1 b o e)
  refine wpAny_bind (wpAny_holding (wpAny_call_entry slot_list_sort ⟨_, at1, rfl⟩ entry_list_sort
    (SrtO.list_sort_ord (SrtO.swo_lex k) at1 hz (fun h2 => ?_) fun out hs hb => ⟨_, rfl, ?_⟩) (args_list_sort _)))
  · refine SrtO.pairs_sortableO (by omega) (fun v hm => (hp v hm).keeps fun b o e _ => old1 b o e) ?_
    intro o e
    have e' : some o = some (seqObj "list" vs.toArray 0) := e.symm.trans at1
    cases e'
    intro c
    exact absurd (Value.type.inj c) (by decide)
  · refine wpAny_pure ⟨_, rfl, h _ _ out hs hb ?_ sz (sortedHeap_at at1)⟩
    intro b o e
    have hlt : b < h1.objs.size := Heap.lt_size (k1 b o e)
    rw [sortedHeap_old (Nat.ne_of_lt hlt) (by rw [size_push']; exact Nat.lt_succ_of_lt hlt)]
    exact old1 b o e
end
end RS
namespace RS
open PySem PySem.Spec PyProof.Rows L2
def rSortedPT (K : PySem.W.Frag) : List V → Hp → VK → Prop := fun vs H Q => ∃ (a : Addr) (xs : List V) (k : V → Int × Int), vs = [V.ref a] ∧ SqT K H a xs ∧
  (∀ x ∈ xs, ∃ t, x = V.ref t ∧ H t = some (.tup [.int (k x).1, .int (k x).2])) ∧
  ∀ ys p, SrtO.Srtd (ltP k) ys → SrtO.Stb (ltP k) ys xs → H p = none → Q (.ref p) (upd H p (.lst ys))
theorem cr_sortedPT {X : Cx} : CallR X (.builtin "sorted") (rSortedPT X.K) := by
  intro pins s σ H vs us Q I r h
  obtain ⟨a, xs, k, rfl, hs, hx, q⟩ := h
  obtain ⟨its, rv, tp, hz⟩ := I.tuple hs
  obtain ⟨u, rfl, ru⟩ := vals1 r
  cases ru
  obtain ⟨e1, e2⟩ := refs_back rv fun x m => (hx x m).imp fun t z => z.1
  refine sorted_pairsT (k := fun u => k (backV u)) (show s.heap.IsTuple a its.toArray from tp) (by rw [← rv.length]; exact hz) ?_ ?_
  · intro v hv
    obtain ⟨t, rfl⟩ := e2 v hv
    obtain ⟨t', e, ht⟩ := hx (V.ref t) (by rw [e1]; exact List.mem_map.mpr ⟨_, hv, rfl⟩)
    cases e
    obtain ⟨_, its2, r2, o, ho, hc, n, hd⟩ := I.hok _ _ ht
    obtain ⟨u1, u2, rfl, ri, rj⟩ := vals2 r2
    obtain ⟨t1, rfl⟩ := ri
    obtain ⟨t2, rfl⟩ := rj
    exact ⟨t, o, t1, t2, n, rfl, ho, hc, hd⟩
  · intro h' d out h1 h2 kp hd hn
    have h3 : ∀ u ∈ out, ∃ a, u = Value.ref a := fun u hu => e2 u (h2.perm.mem_iff.mp hu)
    obtain ⟨n, hn⟩ := hn
    have hb : SrtO.Stb (ltP k) (out.map backV) xs := by
      rw [e1]
      exact SrtO.Stb.map (ltP_swo k) backV h2
    refine ⟨.ref d, upd H d (.lst (out.map backV)), I.laid (t' := s.toks) kp hd ⟨?_, out, n, vals_back h3, hn⟩, rfl, q _ d (SrtO.srtd_map h1) hb (I.hok.fresh hd)⟩
    rw [hb.len]
    exact hz
end RS

set_option Elab.async false
set_option linter.all false
set_option maxRecDepth 100000
namespace RS
open PySem PySem.Spec PyProof.Rows L2
theorem dInts_can : ∀ ns : List Int, PyData.canLayAll0 (dInts ns) = true
  | [] => rfl
  | n :: ns => by
    show (PyData.canLay0 (.int n) && PyData.canLayAll0 (dInts ns)) = true
    rw [dInts_can ns]
    rfl
theorem dTups_can : ∀ tss : List (List Int), PyData.canLayAll0 (dTups tss) = true
  | [] => rfl
  | ts :: tss => by
    show (PyData.canLay0 (.tuple (dInts ts)) && PyData.canLayAll0 (dTups tss)) = true
    rw [dTups_can tss, Bool.and_true]
    simp only [PyData.canLay0]
    exact dInts_can ts
theorem shaped_lt (tss : List (List Int)) : SeqAt.shaped (.list (dTups tss)) = true := by
  unfold SeqAt.shaped
  refine Bool.and_eq_true_iff.mpr ⟨?_, decide_eq_true ?_⟩
  · simp only [PyData.canLay0]
    exact dTups_can tss
  · simp only [PyData.depth]
    have := dTups_depth tss
    omega
theorem shaped_tt (tss : List (List Int)) : SeqAt.shaped (.tuple (dTups tss)) = true := by
  unfold SeqAt.shaped
  refine Bool.and_eq_true_iff.mpr ⟨?_, decide_eq_true ?_⟩
  · simp only [PyData.canLay0]
    exact dTups_can tss
  · simp only [PyData.depth]
    have := dTups_depth tss
    omega
theorem eqv_self {d : PyData} (h : SeqAt.shaped d = true) : PyData.eqv d d = true := SeqAt.eqv_refl d (SeqAt.canLay_of_shaped h)
theorem in_ints {hs : List Int} {a : Int} (h : a ∈ hs) : inV (.int a) (hs.map V.int) = true := by
  unfold inV
  refine List.any_eq_true.mpr ⟨.int a, List.mem_map.mpr ⟨a, h, rfl⟩, ?_⟩
  exact beq_self_eq_true a
theorem swCount_filter (sw : List (Int × Int)) (lo hi : Int) : (sw.filter fun s => decide (s.1 ≤ lo) && decide (hi ≤ s.2)).length = swCount sw lo hi := by
  induction sw with
  | nil => rfl
  | cons s r ih =>
    unfold swCount at ih ⊢
    rw [List.map_cons, List.sum_cons, ← ih, List.filter_cons]
    unfold inSw
    by_cases h : s.1 ≤ lo ∧ hi ≤ s.2
    · rw [if_pos h, if_pos (by rw [decide_eq_true h.1, decide_eq_true h.2]; rfl), List.length_cons]
      omega
    · rw [if_neg h, if_neg (by
        intro z
        obtain ⟨z1, z2⟩ := Bool.and_eq_true_iff.mp z
        exact h ⟨of_decide_eq_true z1, of_decide_eq_true z2⟩)]
      omega
theorem filter_take_one {α : Type} {l : List α} {p : α → Bool} {j : Nat} {x : α} (h : l[j]? = some x) : (l.take (j + 1)).filter p = (l.take j).filter p ++ (if p x = true then [x] else []) := by
  rw [List.take_add_one, h, List.filter_append]
  congr 1
  show List.filter p [x] = _
  rw [List.filter_cons]
  split <;> rfl
theorem mergeSort_swings (hs : List Int) : (swingsOf hs).mergeSort lexLe = swingsOf hs :=
  sorted_one (List.mergeSort_perm _ _) (List.pairwise_mergeSort lex_trans lex_total _) (swings_sorted hs)
theorem swInts_big {sw : List (Int × Int)} (h : ∀ s ∈ sw, Ht s.1 ∧ Ht s.2) : ∀ ts ∈ swInts sw, (∀ n ∈ ts, n.natAbs < 2 ^ 1000) ∧ ts.length ≤ 2 := by
  intro ts hts
  obtain ⟨s, hs, rfl⟩ := List.mem_map.mp hts
  obtain ⟨h1, h2⟩ := h s hs
  refine ⟨?_, Nat.le_refl _⟩
  intro n hn
  have : n = s.1 ∨ n = s.2 := by simpa using hn
  rcases this with rfl | rfl
  · exact h1.abs
  · exact h2.abs
end RS

set_option Elab.async false
set_option linter.all false
set_option maxRecDepth 100000
namespace RS
open PySem PySem.Spec PyProof.Rows L2
/-! ### min and max of a tuple of ints -/
section
variable {P : Program} {w : World} {A : Around} {E : Value → Shared → Prop} {s : Shared} {l : Addr} {xs : Array (Int × Tok)}
theorem tupIter_open {Q : Value → Shared → Prop} (hl : s.heap.IsTuple l (intItems xs))
    (h : ∀ z : Shared, z = { s with heap := s.heap.push { cls := .type "tuple_iterator", data := .fields #[.ref l, .int 0 0] } } →
      (z.heap.IsTupleIter s.heap.objs.size l 0 ∧ z.heap.IsTuple l (intItems xs)) → (∀ b ∈ [s.heap.objs.size, l], b < z.heap.objs.size) → l ≠ s.heap.objs.size → Q (.ref s.heap.objs.size) z) :
    wpAny (model P w) A (pyIter (.ref l)) Q E s := by
  have hlt : l < s.heap.objs.size := by
    obtain ⟨_, e, _⟩ := hl
    exact Heap.lt_size e
  have hl2 : (s.heap.push { cls := .type "tuple_iterator", data := .fields #[.ref l, .int 0 0] }).IsTuple l (intItems xs) := by
    obtain ⟨o, e, r⟩ := hl
    exact ⟨o, Heap.get?_push_of_some _ e, r⟩
  refine wpAny_pyIter_tuple hl (h _ rfl ⟨⟨_, Heap.get?_push_size _ rfl, rfl, rfl⟩, hl2⟩ ?_ (Nat.ne_of_lt hlt))
  intro b hb
  show b < (s.heap.push _).objs.size
  rw [Heap.size_push]
  rcases List.mem_cons.mp hb with rfl | hb
  · exact Nat.lt_succ_self _
  · rw [List.mem_singleton.mp hb]
    exact Nat.lt_succ_of_lt hlt
theorem tup_kept {h' : Heap} (hk : ∀ b o, b ∉ [s.heap.objs.size] → (s.heap.push { cls := .type "tuple_iterator", data := .fields #[.ref l, .int 0 0] }).get? b = some o → h'.get? b = some o) :
    ∀ b o, s.heap.get? b = some o → h'.get? b = some o := by
  intro b o e
  refine hk b o (fun hm => ?_) (Heap.get?_push_of_some _ e)
  have e1 := List.mem_singleton.mp hm
  exact absurd (e1 ▸ Heap.lt_size e) (Nat.lt_irrefl _)
theorem max_tupI {Q : Value → Shared → Prop} (hh : A.handled = none) (hl : s.heap.IsTuple l (intItems xs)) (hne : 0 < xs.size)
    (h : ∀ v h' tk, (intItems xs)[argBest (fun i j => decide (numAt xs i > numAt xs j)) (xs.size - 1)]? = some v → (∀ b o, s.heap.get? b = some o → h'.get? b = some o) → Q v { s with heap := h', toks := tk }) :
    wpAny (model P w) A (call (.builtin "max") [.ref l]) Q E s := by
  refine call_max_walk (tupIter_open hl fun z e st hfp hlI => ?_)
  subst e
  refine ⟨_, _, _, _, _, _, _, rfl, Walks.tuple (A := A.in1) hh _ l hlI (intItems xs), st, hfp, by simpa [intItems] using hne, CmpOf.ints_gt (numAt xs) (fun _ _ => intItems_at), fun v h' tk hP hk => ?_⟩
  exact h v h' tk (by simpa [intItems] using hP) (tup_kept hk)
theorem min_tupI {Q : Value → Shared → Prop} (hh : A.handled = none) (hl : s.heap.IsTuple l (intItems xs)) (hne : 0 < xs.size)
    (h : ∀ v h' tk, (intItems xs)[argBest (fun i j => decide (numAt xs i < numAt xs j)) (xs.size - 1)]? = some v → (∀ b o, s.heap.get? b = some o → h'.get? b = some o) → Q v { s with heap := h', toks := tk }) :
    wpAny (model P w) A (call (.builtin "min") [.ref l]) Q E s := by
  refine call_min_walk (tupIter_open hl fun z e st hfp hlI => ?_)
  subst e
  refine ⟨_, _, _, _, _, _, _, rfl, Walks.tuple (A := A.in1) hh _ l hlI (intItems xs), st, hfp, by simpa [intItems] using hne, CmpOf.ints_lt (numAt xs) (fun _ _ => intItems_at), fun v h' tk hP hk => ?_⟩
  exact h v h' tk (by simpa [intItems] using hP) (tup_kept hk)
end
section
variable {P : Program} {w : World} {A : Around} {s : Shared} {l : Addr} {its : List Value} {ns : List Int} {Q E : Value → Shared → Prop}
theorem maxT_raw (hh : A.handled = none) (hl : s.heap.IsTuple l its.toArray) (hi : IntsAre its ns) (hne : 0 < ns.length)
    (h : ∀ h' tk m t', (∀ b o, s.heap.get? b = some o → h'.get? b = some o) → m ∈ ns → (∀ a, a ∈ ns → a ≤ m) → Q (.int m t') { s with heap := h', toks := tk }) : wpAny (model P w) A (call (.builtin "max") [.ref l]) Q E s := by
  obtain ⟨xs, ee⟩ := hi.allInts.items
  have hz : numsOf (intItems xs).toList = ns := by
    rw [← ee]
    exact hi.numsOf
  rw [nums_intItems] at hz
  subst hz
  rw [ee] at hl
  have hpos : 0 < xs.size := by simpa using hne
  refine max_tupI hh hl hpos fun v h' tk hv hk => ?_
  obtain ⟨tt, rfl⟩ := intItems_at hv
  obtain ⟨_, best⟩ := argBest_gt (numAt xs) (xs.size - 1)
  refine h h' tk _ tt hk ?_ fun x hx => ?_
  · rw [numAt_eq]
    exact PySem.getD_mem (by rw [List.length_map, Array.length_toList]; omega)
  · obtain ⟨i, hi2, rfl⟩ := mem_getD hx
    rw [List.length_map, Array.length_toList] at hi2
    rw [← numAt_eq]
    exact best i (by omega)
theorem minT_raw (hh : A.handled = none) (hl : s.heap.IsTuple l its.toArray) (hi : IntsAre its ns) (hne : 0 < ns.length)
    (h : ∀ h' tk m t', (∀ b o, s.heap.get? b = some o → h'.get? b = some o) → m ∈ ns → (∀ a, a ∈ ns → m ≤ a) → Q (.int m t') { s with heap := h', toks := tk }) : wpAny (model P w) A (call (.builtin "min") [.ref l]) Q E s := by
  obtain ⟨xs, ee⟩ := hi.allInts.items
  have hz : numsOf (intItems xs).toList = ns := by
    rw [← ee]
    exact hi.numsOf
  rw [nums_intItems] at hz
  subst hz
  rw [ee] at hl
  have hpos : 0 < xs.size := by simpa using hne
  refine min_tupI hh hl hpos fun v h' tk hv hk => ?_
  obtain ⟨tt, rfl⟩ := intItems_at hv
  obtain ⟨_, best⟩ := argBest_lt (numAt xs) (xs.size - 1)
  refine h h' tk _ tt hk ?_ fun x hx => ?_
  · rw [numAt_eq]
    exact PySem.getD_mem (by rw [List.length_map, Array.length_toList]; omega)
  · obtain ⟨i, hi2, rfl⟩ := mem_getD hx
    rw [List.length_map, Array.length_toList] at hi2
    rw [← numAt_eq]
    exact best i (by omega)
end
section
variable {X : Cx}
def rMaxT (K : PySem.W.Frag) : List V → Hp → VK → Prop := fun vs H Q => ∃ (t : Addr) (ns : List Int), vs = [.ref t] ∧ SqT K H t (ns.map V.int) ∧ 0 < ns.length ∧ ∀ m, m ∈ ns → (∀ y, y ∈ ns → y ≤ m) → Q (.int m) H
def rMinT (K : PySem.W.Frag) : List V → Hp → VK → Prop := fun vs H Q => ∃ (t : Addr) (ns : List Int), vs = [.ref t] ∧ SqT K H t (ns.map V.int) ∧ 0 < ns.length ∧ ∀ m, m ∈ ns → (∀ y, y ∈ ns → m ≤ y) → Q (.int m) H
theorem cr_maxT (hc : X.calm = true) : CallR X (.builtin "max") (rMaxT X.K) := by
  intro pins s σ H vs us Q I r h
  obtain ⟨t, ns, rfl, hq, hne, q⟩ := h
  obtain ⟨its, rv, tp, _⟩ := I.tuple hq
  rw [Vals.ref1 r]
  exact maxT_raw (I.ok.hd hc) (show s.heap.IsTuple t its.toArray from tp) rv.ints hne fun h' tk m t' hk h1 h2 => ⟨.int _, H, I.kept hk, ⟨_, rfl⟩, q m h1 h2⟩
theorem cr_minT (hc : X.calm = true) : CallR X (.builtin "min") (rMinT X.K) := by
  intro pins s σ H vs us Q I r h
  obtain ⟨t, ns, rfl, hq, hne, q⟩ := h
  obtain ⟨its, rv, tp, _⟩ := I.tuple hq
  rw [Vals.ref1 r]
  exact minT_raw (I.ok.hd hc) (show s.heap.IsTuple t its.toArray from tp) rv.ints hne fun h' tk m t' hk h1 h2 => ⟨.int _, H, I.kept hk, ⟨_, rfl⟩, q m h1 h2⟩
/-- len of a set of ints: as many as it has members -/
def rLenSet (w : World) : List V → Hp → VK → Prop := fun vs H Q => ∃ (a : Addr) (S : Int → Bool) (n : Nat), vs = [.ref a] ∧ H a = some (SetO w a S n) ∧
  ((∃ ks : List Int, ks.Nodup ∧ (∀ k, S k = true ↔ k ∈ ks) ∧ ks.length = n) → Q (.int (n : Nat)) H)
theorem cr_lenSet : CallR X (.builtin "len") (rLenSet X.w) := by
  intro pins s σ H vs us Q I r h
  obtain ⟨a, S, n, rfl, ha, q⟩ := h
  rw [Vals.ref1 r]
  obtain ⟨o, es, ep, t, ho, hx, hd, _, nd, hm, hb, hf, hn, _⟩ := setO_get I ha
  have hs : scanBound ≤ 2 ^ 62 := by decide
  refine call_len_set ho hx hd hf (by omega) ⟨.int (n : Nat), H, I.tok _, ⟨_, by rw [hn]⟩, q ⟨es.toList.map keyOf, nd, hm, ?_⟩⟩
  rw [List.length_map, Array.length_toList, hn]
/-- x in a tuple of data -/
def rInT (K : PySem.W.Frag) : L2.R2 := fun x y H Q => ∃ d ds, Dp K H x d ∧ Dp K H y (.tuple ds) ∧ SeqAt.shaped d = true ∧ SeqAt.shaped (.tuple ds) = true ∧ Q (.bl (ds.any fun z => PyData.eqv z d)) H
theorem op_inT (hu : X.A.units + 65 < cLine) : OpR X (compareOp .In) (rInT X.K) := by
  intro pins s σ H x y v u Q I rx ry h
  obtain ⟨d, ds, hd, he, sd, se, q⟩ := h
  obtain ⟨_, r1⟩ := Dp.reads I d x v hd rx
  obtain ⟨_, r2⟩ := Dp.reads I (.tuple ds) y u he ry
  exact SeqAt.in_tuple_reads r2 r1 (SeqAt.canLay_of_shaped se) (SeqAt.canLay_of_shaped sd) (room_in_shaped sd hu) ⟨.bl _, H, I, rfl, q⟩
end
end RS

set_option Elab.async false
set_option linter.all false
set_option maxRecDepth 100000
namespace RS
open PySem PySem.Spec PyProof.Rows L2
theorem units65 {k : Nat} {A : Around} (r : Room k A) : A.units + 65 < cLine := by
  have := r.un
  omega
theorem shaped_li (ns : List Int) : SeqAt.shaped (.list (dInts ns)) = true := by
  unfold SeqAt.shaped
  refine Bool.and_eq_true_iff.mpr ⟨?_, decide_eq_true ?_⟩
  · simp only [PyData.canLay0]
    exact dInts_can ns
  · simp only [PyData.depth]
    rw [dInts_depth]
    omega
theorem shaped_ti (ns : List Int) : SeqAt.shaped (.tuple (dInts ns)) = true := by
  unfold SeqAt.shaped
  refine Bool.and_eq_true_iff.mpr ⟨?_, decide_eq_true ?_⟩
  · simp only [PyData.canLay0]
    exact dInts_can ns
  · simp only [PyData.depth]
    rw [dInts_depth]
    omega
theorem eqvAll_ints : ∀ (as bs : List Int), PyData.eqvAll (dInts as) (dInts bs) = decide (as = bs)
  | [], [] => rfl
  | [], _ :: _ => rfl
  | _ :: _, [] => rfl
  | a :: as, b :: bs => by
    show (PyData.eqv (.int a) (.int b) && PyData.eqvAll (dInts as) (dInts bs)) = _
    rw [eqvAll_ints as bs]
    simp only [PyData.eqv]
    by_cases h : a = b
    · by_cases g : as = bs
      · rw [decide_eq_true g, decide_eq_true (by rw [h, g]), h]
        simp
      · rw [decide_eq_false g, Bool.and_false, decide_eq_false (fun z => g (List.cons.inj z).2)]
    · rw [decide_eq_false (fun z => h (List.cons.inj z).1), show (a == b) = false from beq_eq_false_iff_ne.mpr h, Bool.false_and]
theorem eqv_ti (as bs : List Int) : PyData.eqv (.tuple (dInts as)) (.tuple (dInts bs)) = decide (as = bs) := by
  simp only [PyData.eqv]
  exact eqvAll_ints as bs
theorem eqv_li (as bs : List Int) : PyData.eqv (.list (dInts as)) (.list (dInts bs)) = decide (as = bs) := by
  simp only [PyData.eqv]
  exact eqvAll_ints as bs
theorem eqvAll_tups : ∀ (as bs : List (List Int)), PyData.eqvAll (dTups as) (dTups bs) = decide (as = bs)
  | [], [] => rfl
  | [], _ :: _ => rfl
  | _ :: _, [] => rfl
  | a :: as, b :: bs => by
    show (PyData.eqv (.tuple (dInts a)) (.tuple (dInts b)) && PyData.eqvAll (dTups as) (dTups bs)) = _
    rw [eqvAll_tups as bs, eqv_ti]
    by_cases h : a = b
    · by_cases g : as = bs
      · rw [decide_eq_true g, decide_eq_true h, decide_eq_true (by rw [h, g])]
        rfl
      · rw [decide_eq_false g, Bool.and_false, decide_eq_false (fun z => g (List.cons.inj z).2)]
    · rw [decide_eq_false (fun z => h (List.cons.inj z).1), decide_eq_false h, Bool.false_and]
theorem swInts_inj {a b : List (Int × Int)} (h : swInts a = swInts b) : a = b := by
  induction a generalizing b with
  | nil =>
    cases b with
    | nil => rfl
    | cons y b => cases h
  | cons x a ih =>
    cases b with
    | nil => cases h
    | cons y b =>
      have h' : [x.1, x.2] :: swInts a = [y.1, y.2] :: swInts b := h
      obtain ⟨h1, h2⟩ := List.cons.inj h'
      obtain ⟨g1, g2⟩ := List.cons.inj h1
      rw [ih h2, Prod.ext (x := x) (y := y) g1 (List.cons.inj g2).1]
theorem eqv_tt (as bs : List (Int × Int)) : PyData.eqv (.tuple (dTups (swInts as))) (.tuple (dTups (swInts bs))) = decide (as = bs) := by
  simp only [PyData.eqv]
  rw [eqvAll_tups]
  by_cases h : as = bs
  · rw [decide_eq_true h, h, decide_eq_true rfl]
  · rw [decide_eq_false h, decide_eq_false (fun z => h (swInts_inj z))]
theorem eqv_lt (as bs : List (Int × Int)) : PyData.eqv (.list (dTups (swInts as))) (.list (dTups (swInts bs))) = decide (as = bs) := by
  simp only [PyData.eqv]
  rw [eqvAll_tups]
  by_cases h : as = bs
  · rw [decide_eq_true h, h, decide_eq_true rfl]
  · rw [decide_eq_false h, decide_eq_false (fun z => h (swInts_inj z))]
theorem any_pair (sw : List (Int × Int)) (a b : Int) : ((dTups (swInts sw)).any fun z => PyData.eqv z (.tuple (dInts [a, b]))) = decide ((a, b) ∈ sw) := by
  induction sw with
  | nil => exact (decide_eq_false (fun h => nomatch h)).symm
  | cons s sw ih =>
    show (PyData.eqv (.tuple (dInts [s.1, s.2])) (.tuple (dInts [a, b])) || (dTups (swInts sw)).any _) = _
    rw [ih, eqv_ti]
    by_cases h : (a, b) = s
    · rw [decide_eq_true (show (a, b) ∈ s :: sw from h ▸ List.mem_cons_self), decide_eq_true (by rw [← h]), Bool.true_or]
    · have h2 : ¬ [s.1, s.2] = [a, b] := by
        intro z
        obtain ⟨z1, z2⟩ := List.cons.inj z
        exact h (Prod.ext z1.symm (List.cons.inj z2).1.symm)
      rw [decide_eq_false h2, Bool.false_or]
      by_cases g : (a, b) ∈ sw
      · rw [decide_eq_true g, decide_eq_true (List.mem_cons_of_mem _ g)]
      · rw [decide_eq_false g, decide_eq_false]
        intro z
        rcases List.mem_cons.mp z with z | z
        · exact h z
        · exact g z
theorem sorted_ints_one : ∀ {l m : List Int}, l.Perm m → (l.Pairwise fun a b => a ≤ b) → (m.Pairwise fun a b => a ≤ b) → l = m
  | [], m, p, _, _ => (List.nil_perm.mp p).symm
  | a :: l, [], p, _, _ => absurd (List.perm_nil.mp p) (by simp)
  | a :: l, b :: m, p, hl, hm => by
    have e : a = b := by
      rw [List.pairwise_cons] at hl hm
      have ha : a ∈ b :: m := p.mem_iff.mp (by simp)
      have hb : b ∈ a :: l := p.mem_iff.mpr (by simp)
      rcases List.mem_cons.mp ha with h | h
      · exact h
      · rcases List.mem_cons.mp hb with h' | h'
        · exact h'.symm
        · have := hl.1 b h'
          have := hm.1 a h
          omega
    subst e
    rw [sorted_ints_one ((List.perm_cons a).mp p) (List.pairwise_cons.mp hl).2 (List.pairwise_cons.mp hm).2]
theorem take_map_succ {α : Type} {l : List α} {f : α → Int} {j : Nat} {x : α} (h : l[j]? = some x) : (((l.take j).map f).map V.int) ++ [V.int (f x)] = ((l.take (j + 1)).map f).map V.int := by
  rw [List.take_add_one, h, List.map_append, List.map_append]
  rfl
end RS

set_option Elab.async false
set_option linter.all false
set_option maxRecDepth 100000
namespace RS
open PySem PySem.Spec PyProof.Rows L2
/-! ### movement, level by level -/
/-- the sum of what rises, from a along l to b -/
def upM : Int → List Int → Int → Nat
  | a, [], b => (b - a).toNat
  | a, x :: l, b => (x - a).toNat + upM x l b
def mv : Int → List Int → Int → Int
  | a, [], b => absI (b - a)
  | a, x :: l, b => absI (x - a) + mv x l b
theorem abs_up (a b : Int) : absI (b - a) = 2 * ((b - a).toNat : Int) - (b - a) := by
  unfold absI
  split <;> omega
theorem mv_up : ∀ (l : List Int) (a b : Int), mv a l b = 2 * (upM a l b : Int) - (b - a)
  | [], a, b => abs_up a b
  | x :: l, a, b => by
    show absI (x - a) + mv x l b = 2 * (((x - a).toNat + upM x l b : Nat) : Int) - (b - a)
    rw [mv_up l x b, abs_up]
    omega
def lev (f : Int → Nat) (m : Int) : Nat → Nat
  | 0 => 0
  | n + 1 => lev f m n + f (m + n)
theorem lev_add (f g : Int → Nat) (m : Int) : ∀ n : Nat, lev (fun k => f k + g k) m n = lev f m n + lev g m n
  | 0 => rfl
  | n + 1 => by
    show lev (fun k => f k + g k) m n + (f (m + n) + g (m + n)) = lev f m n + f (m + n) + (lev g m n + g (m + n))
    rw [lev_add f g m n]
    omega
theorem lev_zero (m : Int) : ∀ n : Nat, lev (fun _ => 0) m n = 0
  | 0 => rfl
  | n + 1 => by
    show lev (fun _ => 0) m n + 0 = 0
    rw [lev_zero m n]
theorem lev_congr {f g : Int → Nat} (h : ∀ k, f k = g k) (m : Int) (n : Nat) : lev f m n = lev g m n := by
  rw [show f = g from funext h]
theorem lev_rise {x y m : Int} (hx : m ≤ x) (hy : m ≤ y) : ∀ n : Nat,
    lev (fun k => rise (decide (k + 1 ≤ x)) (decide (k + 1 ≤ y))) m n = min n (y - m).toNat - min n (x - m).toNat
  | 0 => by
    show 0 = _
    omega
  | n + 1 => by
    show lev _ m n + rise (decide (m + n + 1 ≤ x)) (decide (m + n + 1 ≤ y)) = _
    rw [lev_rise hx hy n]
    unfold rise
    by_cases h1 : m + n + 1 ≤ x <;> by_cases h2 : m + n + 1 ≤ y
    · rw [decide_eq_true h1, decide_eq_true h2]
      show _ + 0 = _
      omega
    · rw [decide_eq_true h1, decide_eq_false h2]
      show _ + 0 = _
      omega
    · rw [decide_eq_false h1, decide_eq_true h2]
      show _ + 1 = _
      omega
    · rw [decide_eq_false h1, decide_eq_false h2]
      show _ + 0 = _
      omega
theorem lev_rise' {x y m : Int} {n : Nat} (hx : m ≤ x ∧ x ≤ m + n) (hy : m ≤ y ∧ y ≤ m + n) :
    lev (fun k => rise (decide (k + 1 ≤ x)) (decide (k + 1 ≤ y))) m n = (y - x).toNat := by
  rw [lev_rise hx.1 hy.1]
  omega
def mk1 (k : Int) (x : Int) : Bool := decide (k + 1 ≤ x)
theorem marks_one (hs : List Int) (k : Int) : marks hs k (k + 1) = hs.map (mk1 k) := by
  unfold marks
  rw [List.filter_eq_self.mpr]
  · rfl
  · intro x _
    by_cases h : x ≤ k
    · exact out_lo h
    · exact out_hi (by omega)
theorem lev_adj {m : Int} {n : Nat} : ∀ (l : List Int) (a b : Int), (m ≤ a ∧ a ≤ m + n) → (m ≤ b ∧ b ≤ m + n) → (∀ x ∈ l, m ≤ x ∧ x ≤ m + n) →
    lev (fun k => adj (mk1 k a) (l.map (mk1 k) ++ [mk1 k b])) m n = upM a l b
  | [], a, b, ha, hb, _ => by
    show lev (fun k => rise (mk1 k a) (mk1 k b) + 0) m n = (b - a).toNat
    exact lev_rise' ha hb
  | x :: l, a, b, ha, hb, hl => by
    have hx := hl x List.mem_cons_self
    show lev (fun k => rise (mk1 k a) (mk1 k x) + adj (mk1 k x) (l.map (mk1 k) ++ [mk1 k b])) m n = (x - a).toNat + upM x l b
    rw [lev_add, lev_adj l x b hx hb fun y hy => hl y (List.mem_cons_of_mem _ hy)]
    congr 1
    exact lev_rise' ha hx
theorem lev_sw {m : Int} {n : Nat} {s : Int × Int} (h1 : m ≤ s.1) (h2 : s.1 < s.2) (h3 : s.2 ≤ m + n) : lev (fun k => inSw k (k + 1) s.1 s.2) m n = (s.2 - s.1).toNat := by
  rw [← lev_rise' (x := s.1) (y := s.2) (m := m) (n := n) ⟨h1, by omega⟩ ⟨by omega, h3⟩]
  refine lev_congr ?_ m n
  intro k
  unfold inSw rise
  by_cases g1 : k + 1 ≤ s.1 <;> by_cases g2 : k + 1 ≤ s.2
  · rw [decide_eq_true g1, decide_eq_true g2, if_neg (by omega)]
    rfl
  · rw [decide_eq_true g1, decide_eq_false g2, if_neg (by omega)]
    rfl
  · rw [decide_eq_false g1, decide_eq_true g2, if_pos (by omega)]
    rfl
  · rw [decide_eq_false g1, decide_eq_false g2, if_neg (by omega)]
    rfl
def rangeSum (sw : List (Int × Int)) : Int := (sw.map fun s => s.2 - s.1).sum
theorem lev_sws {m : Int} {n : Nat} : ∀ (sw : List (Int × Int)), (∀ s ∈ sw, m ≤ s.1 ∧ s.1 < s.2 ∧ s.2 ≤ m + n) → (lev (fun k => swCount sw k (k + 1)) m n : Int) = rangeSum sw
  | [], _ => by
    show ((lev (fun _ => 0) m n : Nat) : Int) = 0
    rw [lev_zero]
    rfl
  | s :: sw, h => by
    obtain ⟨h1, h2, h3⟩ := h s List.mem_cons_self
    have ih := lev_sws sw fun t ht => h t (List.mem_cons_of_mem _ ht)
    have e : lev (fun k => swCount (s :: sw) k (k + 1)) m n = lev (fun k => inSw k (k + 1) s.1 s.2) m n + lev (fun k => swCount sw k (k + 1)) m n := by
      rw [← lev_add]
      rfl
    rw [e, lev_sw h1 h2 h3]
    show _ = (s.2 - s.1) + rangeSum sw
    rw [← ih]
    omega
theorem steps_mv : ∀ (r : List Int) (a b : Int), ((List.range (r ++ [b]).length).map fun i => absI ((r ++ [b]).getD i 0 - (if i = 0 then a else (r ++ [b]).getD (i - 1) 0))).sum = mv a r b
  | [], a, b => by
    show absI (b - a) + 0 = absI (b - a)
    omega
  | x :: r, a, b => by
    have ih := steps_mv r x b
    show _ = absI (x - a) + mv x r b
    rw [← ih]
    show ((List.range ((r ++ [b]).length + 1)).map _).sum = _
    rw [List.range_succ_eq_map, List.map_cons, List.sum_cons, List.map_map]
    congr 1
    congr 1
    refine List.map_congr_left ?_
    intro i _
    show absI ((r ++ [b]).getD i 0 - (if i + 1 = 0 then a else (x :: (r ++ [b])).getD i 0)) = _
    rw [if_neg (by omega)]
    cases i with
    | zero => rfl
    | succ i => rfl
theorem steps_cons (a : Int) (r : List Int) : (stepsOf (a :: r)).sum = mv a r a := by
  have e2 : ((List.range r.length).map fun i => absI (r.getD i 0 - (if i = 0 then a else r.getD (i - 1) 0))).sum + absI (a - (a :: r).getD r.length 0) = mv a r a := by
    have h := steps_mv r a a
    rw [List.length_append, List.length_singleton, List.range_succ, List.map_append, List.sum_append] at h
    rw [← h]
    have e3 : ((List.range r.length).map fun i => absI (r.getD i 0 - (if i = 0 then a else r.getD (i - 1) 0))) = (List.range r.length).map fun i => absI ((r ++ [a]).getD i 0 - (if i = 0 then a else (r ++ [a]).getD (i - 1) 0)) := by
      refine List.map_congr_left ?_
      intro i hi
      have hi' := List.mem_range.mp hi
      have g : ∀ j, j < r.length → (r ++ [a]).getD j 0 = r.getD j 0 := by
        intro j hj
        rw [List.getD_eq_getElem?_getD, List.getElem?_append_left hj, List.getD_eq_getElem?_getD]
      rw [g i hi']
      by_cases h0 : i = 0
      · rw [if_pos h0, if_pos h0]
      · rw [if_neg h0, if_neg h0, g (i - 1) (by omega)]
    rw [e3]
    congr 1
    show _ = absI ((r ++ [a]).getD r.length 0 - _) + 0
    have e4 : (r ++ [a]).getD r.length 0 = a := by
      rw [List.getD_eq_getElem?_getD, List.getElem?_append_right (Nat.le_refl _), Nat.sub_self]
      rfl
    rw [e4, Int.add_zero]
    cases r with
    | nil => rfl
    | cons y r =>
      rw [if_neg (by rw [List.length_cons]; omega)]
      congr 2
      rw [List.length_cons, Nat.add_sub_cancel]
      show (y :: r).getD r.length 0 = _
      rw [List.getD_eq_getElem?_getD, List.getD_eq_getElem?_getD, List.getElem?_append_left (by rw [List.length_cons]; omega)]
  rw [← e2]
  unfold stepsOf
  rw [List.length_cons, List.range_succ_eq_map, List.map_cons, List.sum_cons, List.map_map, Int.add_comm]
  congr 1
  congr 1
  refine List.map_congr_left ?_
  intro i _
  show absI (r.getD i 0 - prevOf (a :: r) (i + 1)) = _
  congr 2
  unfold prevOf
  rw [if_neg (by omega)]
  cases i with
  | zero => rfl
  | succ i => rfl
theorem bounds_of (hs : List Int) : ∃ (m : Int) (n : Nat), ∀ x ∈ hs, m ≤ x ∧ x ≤ m + n := by
  induction hs with
  | nil => exact ⟨0, 0, (fun _ h => nomatch h)⟩
  | cons a r ih =>
    obtain ⟨m, n, h⟩ := ih
    refine ⟨min m a, (max (m + n) a - min m a).toNat, ?_⟩
    intro x hx
    rcases List.mem_cons.mp hx with rfl | hx
    · omega
    · have := h x hx
      omega
/-- the movement, by levels -/
theorem move_lev {hs : List Int} {m : Int} {n : Nat} (h : ∀ x ∈ hs, m ≤ x ∧ x ≤ m + n) : (stepsOf hs).sum = 2 * ((lev (fun k => cyc (marks hs k (k + 1))) m n : Nat) : Int) := by
  cases hs with
  | nil =>
    show 0 = 2 * ((lev (fun _ => 0) m n : Nat) : Int)
    rw [lev_zero]
    rfl
  | cons a r =>
    have ha := h a List.mem_cons_self
    rw [steps_cons, mv_up, ← lev_adj r a a ha ha fun x hx => h x (List.mem_cons_of_mem _ hx), Int.sub_self, Int.sub_zero]
    congr 2
    refine lev_congr ?_ m n
    intro k
    rw [marks_one]
    rfl
theorem move_swings (hs : List Int) : (stepsOf hs).sum = 2 * rangeSum (swingsOf hs) := by
  obtain ⟨m, n, h⟩ := bounds_of hs
  rw [move_lev h, ← lev_sws (m := m) (n := n) (swingsOf hs) ?_]
  · congr 2
    refine lev_congr ?_ m n
    intro k
    rw [swings_count (by omega)]
  · intro s hs'
    obtain ⟨h1, h2, h3⟩ := swings_mem s hs'
    exact ⟨(h _ h1).1, h3, (h _ h2).2⟩

/-! ### lows and highs -/
theorem step_up {hs : List Int} {left : List Nat} (hc : Cl (R2 hs) left) (nd : left.Nodup) (hne : left ≠ []) :
    upAt hs (stepPair hs left).1 = true ∧ upAt hs (stepPair hs left).2 = false := by
  obtain ⟨q, r, A, B, hpr, hwo, c2, mq, mr, hl, _⟩ := step_facts hc nd hne
  obtain ⟨⟨u1, u2⟩, _⟩ := c2
  rcases hpr with ⟨e, h⟩ | ⟨e, h⟩ <;> rw [e]
  · cases hu : upAt hs q with
    | true =>
      rw [hu] at u1
      exact ⟨rfl, u1⟩
    | false =>
      rw [hu, if_neg Bool.false_ne_true] at u2
      omega
  · cases hu : upAt hs q with
    | true =>
      rw [hu, if_pos rfl] at u2
      omega
    | false =>
      rw [hu] at u1
      exact ⟨u1, rfl⟩
theorem perm_without {left : List Nat} {pr : Nat × Nat} (nd : left.Nodup) (h1 : pr.1 ∈ left) (h2 : pr.2 ∈ left) (p : Nat → Bool) (g1 : p pr.1 = true) (g2 : p pr.2 = false) :
    (left.filter p).Perm (pr.1 :: (without left pr).filter p) := by
  refine (List.perm_ext_iff_of_nodup (nd.filter _) ?_).mpr ?_
  · refine List.nodup_cons.mpr ⟨?_, (nd.filter _).filter _⟩
    intro z
    have := (List.mem_filter.mp (List.mem_filter.mp z).1).2
    simp at this
  · intro t
    rw [List.mem_cons, List.mem_filter]
    unfold without
    rw [List.mem_filter, List.mem_filter]
    constructor
    · rintro ⟨a, b⟩
      by_cases e : t = pr.1
      · exact .inl e
      · refine .inr ⟨⟨a, ?_⟩, b⟩
        have e2 : t ≠ pr.2 := by
          rintro rfl
          rw [g2] at b
          cases b
        rw [decide_eq_false e, decide_eq_false e2]
        rfl
    · rintro (rfl | ⟨⟨a, _⟩, b⟩)
      · exact ⟨h1, g1⟩
      · exact ⟨a, b⟩
theorem perm_without2 {left : List Nat} {pr : Nat × Nat} (nd : left.Nodup) (h1 : pr.1 ∈ left) (h2 : pr.2 ∈ left) (p : Nat → Bool) (g1 : p pr.1 = false) (g2 : p pr.2 = true) :
    (left.filter p).Perm (pr.2 :: (without left pr).filter p) := by
  have h := perm_without (pr := (pr.2, pr.1)) nd h2 h1 p g2 g1
  have e : without left (pr.2, pr.1) = without left pr := by
    unfold without
    congr 1
    funext t
    rw [Bool.or_comm]
  rw [e] at h
  exact h
theorem rem_lows {hs : List Int} : ∀ (n : Nat) (left : List Nat), left.length ≤ n → Cl (R2 hs) left → left.Nodup →
    (left.filter (upAt hs)).Perm ((removalGo hs n left).map (·.1)) ∧ (left.filter fun t => !upAt hs t).Perm ((removalGo hs n left).map (·.2))
  | 0, left, hn, _, _ => by
    have : left = [] := List.eq_nil_of_length_eq_zero (by omega)
    subst this
    exact ⟨.refl _, .refl _⟩
  | n + 1, left, hn, hc, nd => by
    unfold removalGo
    by_cases hne : left = []
    · rw [if_pos hne]
      subst hne
      exact ⟨.refl _, .refl _⟩
    · rw [if_neg hne]
      obtain ⟨s1, s2, s3, s4, s5, s6, s7⟩ := step_next hc nd hne
      obtain ⟨u1, u2⟩ := step_up hc nd hne
      obtain ⟨i1, i2⟩ := rem_lows n (without left (stepPair hs left)) (by omega) s1 s2
      constructor
      · exact (perm_without nd s4 s5 _ u1 u2).trans (i1.cons _)
      · refine (perm_without2 nd s4 s5 _ ?_ ?_).trans (i2.cons _)
        · rw [u1]
          rfl
        · rw [u2]
          rfl
theorem lows_perm (hs : List Int) : (((turnsOf hs).filter (upAt hs)).map (hgt hs)).Perm ((swingsOf hs).map (·.1)) ∧ (((turnsOf hs).filter fun t => !upAt hs t).map (hgt hs)).Perm ((swingsOf hs).map (·.2)) := by
  obtain ⟨h1, h2⟩ := rem_lows (hs := hs) _ (turnsOf hs) (Nat.le_refl _) turns_zig.1 (turns_nodup hs)
  have e1 : ((swingsOf hs).map (·.1)).Perm ((swingsL hs).map (·.1)) := (swings_perm hs).map _
  have e2 : ((swingsOf hs).map (·.2)).Perm ((swingsL hs).map (·.2)) := (swings_perm hs).map _
  unfold swingsL at e1 e2
  rw [List.map_map] at e1 e2
  refine ⟨((h1.map (hgt hs)).trans ?_).trans e1.symm, ((h2.map (hgt hs)).trans ?_).trans e2.symm⟩
  · rw [List.map_map]
    exact .refl _
  · rw [List.map_map]
    exact .refl _
/-- at a turn: a valley is lower than the place before -/
theorem turn_up {hs : List Int} {i : Nat} (hi : i ∈ turnsOf hs) : decide (hgt hs i < prevOf hs i) = upAt hs i ∧ decide (hgt hs i > prevOf hs i) = !upAt hs i := by
  have hl := turns_lt i hi
  have ht : isTurn hs i = true := (List.mem_filter.mp hi).2
  rw [turn_iff hl] at ht
  have hne := of_decide_eq_true ht
  have r := r1_pre hl
  have hd := r.2 hne
  have r1 := r.1
  rw [prevOf_eq]
  cases hu : upAt hs i with
  | true =>
    have hp : upAt hs (pre_ hs.length i) = false := by
      cases hq : upAt hs (pre_ hs.length i) with
      | true =>
        rw [hu, hq] at hne
        exact absurd rfl hne
      | false => rfl
    rw [hp, if_neg Bool.false_ne_true] at r1
    exact ⟨decide_eq_true (by omega), decide_eq_false (by omega)⟩
  | false =>
    have hp : upAt hs (pre_ hs.length i) = true := by
      cases hq : upAt hs (pre_ hs.length i) with
      | false =>
        rw [hu, hq] at hne
        exact absurd rfl hne
      | true => rfl
    rw [hp, if_pos rfl] at r1
    exact ⟨decide_eq_false (by omega), decide_eq_true (by omega)⟩

/-! ### the widest swing -/
theorem adj_pos : ∀ (l : List Bool) (p : Bool), p = false → true ∈ l → 1 ≤ adj p l
  | [], _, _, h => nomatch h
  | b :: r, p, hp, h => by
    show 1 ≤ rise p b + adj b r
    cases hb : b with
    | true =>
      subst hp
      show 1 ≤ 1 + _
      omega
    | false =>
      have hm : true ∈ r := by
        rcases List.mem_cons.mp h with e | h
        · rw [hb] at e
          cases e
        · exact h
      have := adj_pos r false rfl hm
      omega
theorem cyc_pos {ms : List Bool} (h1 : true ∈ ms) (h2 : false ∈ ms) : 1 ≤ cyc ms := by
  obtain ⟨a, b, rfl⟩ := List.append_of_mem h2
  rw [cyc_rot]
  show 1 ≤ adj false (b ++ a ++ [false])
  refine adj_pos _ _ rfl ?_
  rw [List.mem_append, List.mem_cons] at h1
  rw [List.mem_append, List.mem_append]
  rcases h1 with h | h | h
  · exact .inl (.inr h)
  · cases h
  · exact .inl (.inl h)
theorem hull_mem {hs : List Int} {m M : Int} (hm : m ∈ hs) (hM : M ∈ hs) (h1 : ∀ x ∈ hs, m ≤ x) (h2 : ∀ x ∈ hs, x ≤ M) : ((m, M) ∈ swingsOf hs) ↔ m < M := by
  constructor
  · intro h
    exact (swings_mem _ h).2.2
  · intro hlt
    have t1 : true ∈ marks hs m M := by
      unfold marks
      refine List.mem_map.mpr ⟨M, List.mem_filter.mpr ⟨hM, out_hi (Int.le_refl _)⟩, decide_eq_true (Int.le_refl _)⟩
    have t2 : false ∈ marks hs m M := by
      unfold marks
      refine List.mem_map.mpr ⟨m, List.mem_filter.mpr ⟨hm, out_lo (Int.le_refl _)⟩, decide_eq_false (by omega)⟩
    have hc := cyc_pos t1 t2
    rw [← swings_count hlt, ← swCount_filter] at hc
    obtain ⟨s, hs'⟩ := List.exists_mem_of_length_pos hc
    obtain ⟨a, b⟩ := List.mem_filter.mp hs'
    obtain ⟨b1, b2⟩ := Bool.and_eq_true_iff.mp b
    have b1 := of_decide_eq_true b1
    have b2 := of_decide_eq_true b2
    obtain ⟨c1, c2, c3⟩ := swings_mem s a
    have d1 := h1 _ c1
    have d2 := h2 _ c2
    have e : s = (m, M) := Prod.ext (by omega) (by omega)
    rw [← e]
    exact a
theorem two_keys {ks hs : List Int} {m M : Int} (nd : ks.Nodup) (hk : ∀ k, k ∈ hs ↔ k ∈ ks) (hm : m ∈ hs) (hM : M ∈ hs) (h1 : ∀ x ∈ hs, m ≤ x) (h2 : ∀ x ∈ hs, x ≤ M) : 1 < ks.length ↔ m < M := by
  have km := (hk m).mp hm
  have kM := (hk M).mp hM
  constructor
  · intro hl
    match ks, hl with
    | a :: b :: r, _ =>
      have ha := (hk a).mpr List.mem_cons_self
      have hb := (hk b).mpr (List.mem_cons_of_mem _ List.mem_cons_self)
      have ne : a ≠ b := by
        rintro rfl
        exact (List.nodup_cons.mp nd).1 List.mem_cons_self
      have := h1 a ha
      have := h1 b hb
      have := h2 a ha
      have := h2 b hb
      omega
  · intro hlt
    match ks, km, kM with
    | [a], km, kM =>
      have e1 := List.mem_singleton.mp km
      have e2 := List.mem_singleton.mp kM
      omega
    | a :: b :: r, _, _ =>
      show 1 < r.length + 1 + 1
      omega
end RS

set_option Elab.async false
set_option linter.all false
set_option maxRecDepth 100000
namespace RS
open PySem PySem.Spec PyProof.Rows L2
/-! ### the swings follow from the numbers of passages -/
theorem extreme : ∀ L : List (Int × Int), L ≠ [] → ∃ x ∈ L, ∀ y ∈ L, x.1 < y.1 ∨ (x.1 = y.1 ∧ y.2 ≤ x.2)
  | [], h => absurd rfl h
  | [a], _ => ⟨a, List.mem_cons_self, fun y hy => by
    rw [List.mem_singleton.mp hy]
    exact .inr ⟨rfl, Int.le_refl _⟩⟩
  | a :: b :: L, _ => by
    obtain ⟨x, hx, h⟩ := extreme (b :: L) (List.cons_ne_nil _ _)
    by_cases c : a.1 < x.1 ∨ (a.1 = x.1 ∧ x.2 ≤ a.2)
    · refine ⟨a, List.mem_cons_self, fun y hy => ?_⟩
      rcases List.mem_cons.mp hy with rfl | hy
      · exact .inr ⟨rfl, Int.le_refl _⟩
      · have := h y hy
        omega
    · refine ⟨x, List.mem_cons_of_mem _ hx, fun y hy => ?_⟩
      rcases List.mem_cons.mp hy with rfl | hy
      · omega
      · exact h y hy
theorem swCount_mem {sw : List (Int × Int)} {x : Int × Int} (h : x ∈ sw) : 1 ≤ swCount sw x.1 x.2 := by
  rw [← swCount_filter]
  refine List.length_pos_of_mem (a := x) (List.mem_filter.mpr ⟨h, ?_⟩)
  rw [decide_eq_true (Int.le_refl _), decide_eq_true (Int.le_refl _)]
  rfl
theorem swCount_some {sw : List (Int × Int)} {lo hi : Int} (h : 1 ≤ swCount sw lo hi) : ∃ y ∈ sw, y.1 ≤ lo ∧ hi ≤ y.2 := by
  rw [← swCount_filter] at h
  obtain ⟨y, hy⟩ := List.exists_mem_of_length_pos h
  obtain ⟨a, b⟩ := List.mem_filter.mp hy
  obtain ⟨b1, b2⟩ := Bool.and_eq_true_iff.mp b
  exact ⟨y, a, of_decide_eq_true b1, of_decide_eq_true b2⟩
theorem sw_both {T : List Int} {s1 s2 : List (Int × Int)} {x : Int × Int} (hx : x ∈ s1) (hT : x.1 ∈ T ∧ x.2 ∈ T ∧ x.1 < x.2)
    (hc : ∀ lo ∈ T, ∀ hi ∈ T, lo < hi → swCount s1 lo hi = swCount s2 lo hi) (hm : ∀ y ∈ s2, x.1 < y.1 ∨ (x.1 = y.1 ∧ y.2 ≤ x.2)) : x ∈ s2 := by
  have h1 := swCount_mem hx
  rw [hc _ hT.1 _ hT.2.1 hT.2.2] at h1
  obtain ⟨y, hy, g1, g2⟩ := swCount_some h1
  have := hm y hy
  have e : y = x := Prod.ext (by omega) (by omega)
  rw [← e]
  exact hy
theorem sw_unique {T : List Int} : ∀ (n : Nat) (s1 s2 : List (Int × Int)), s1.length + s2.length ≤ n → (∀ s ∈ s1, s.1 ∈ T ∧ s.2 ∈ T ∧ s.1 < s.2) → (∀ s ∈ s2, s.1 ∈ T ∧ s.2 ∈ T ∧ s.1 < s.2) →
    (∀ lo ∈ T, ∀ hi ∈ T, lo < hi → swCount s1 lo hi = swCount s2 lo hi) → s1.Perm s2
  | 0, s1, s2, hn, _, _, _ => by
    have e1 : s1 = [] := List.eq_nil_of_length_eq_zero (by omega)
    have e2 : s2 = [] := List.eq_nil_of_length_eq_zero (by omega)
    rw [e1, e2]
  | n + 1, s1, s2, hn, h1, h2, hc => by
    by_cases hne : s1 ++ s2 = []
    · obtain ⟨e1, e2⟩ := List.append_eq_nil_iff.mp hne
      rw [e1, e2]
    · obtain ⟨x, hx, hm⟩ := extreme _ hne
      have m1 : ∀ y ∈ s1, x.1 < y.1 ∨ (x.1 = y.1 ∧ y.2 ≤ x.2) := fun y hy => hm y (List.mem_append_left _ hy)
      have m2 : ∀ y ∈ s2, x.1 < y.1 ∨ (x.1 = y.1 ∧ y.2 ≤ x.2) := fun y hy => hm y (List.mem_append_right _ hy)
      have both : x ∈ s1 ∧ x ∈ s2 := by
        rcases List.mem_append.mp hx with hx | hx
        · exact ⟨hx, sw_both hx (h1 x hx) hc m2⟩
        · exact ⟨sw_both hx (h2 x hx) (fun lo l hi r hlt => (hc lo l hi r hlt).symm) m1, hx⟩
      have p1 := List.perm_cons_erase both.1
      have p2 := List.perm_cons_erase both.2
      have l1 := p1.length_eq
      have l2 := p2.length_eq
      rw [List.length_cons] at l1 l2
      have ih := sw_unique n (s1.erase x) (s2.erase x) (by omega) (fun s hs => h1 s (List.mem_of_mem_erase hs)) (fun s hs => h2 s (List.mem_of_mem_erase hs)) ?_
      · exact (p1.trans (ih.cons x)).trans p2.symm
      · intro lo hlo hi hhi hlt
        have c := hc lo hlo hi hhi hlt
        rw [swCount_perm p1, swCount_perm p2] at c
        have e : ∀ l : List (Int × Int), swCount (x :: l) lo hi = inSw lo hi x.1 x.2 + swCount l lo hi := fun l => by
          unfold swCount
          rw [List.map_cons, List.sum_cons]
        rw [e, e] at c
        omega
theorem alike_iff {h1 h2 T : List Int} (hT1 : ∀ x ∈ h1, x ∈ T) (hT2 : ∀ x ∈ h2, x ∈ T) :
    (∀ lo ∈ T, ∀ hi ∈ T, lo < hi → cyc (marks h1 lo hi) = cyc (marks h2 lo hi)) ↔ swingsOf h1 = swingsOf h2 := by
  constructor
  · intro h
    refine sorted_one (sw_unique (T := T) _ _ _ (Nat.le_refl _) ?_ ?_ ?_) (swings_sorted h1) (swings_sorted h2)
    · intro s hs
      obtain ⟨a, b, c⟩ := swings_mem s hs
      exact ⟨hT1 _ a, hT1 _ b, c⟩
    · intro s hs
      obtain ⟨a, b, c⟩ := swings_mem s hs
      exact ⟨hT2 _ a, hT2 _ b, c⟩
    · intro lo hlo hi hhi hlt
      rw [swings_count hlt, swings_count hlt]
      exact h lo hlo hi hhi hlt
  · intro h lo _ hi _ hlt
    rw [← swings_count hlt, ← swings_count hlt, h]
end RS

set_option Elab.async false
set_option linter.all false
set_option maxRecDepth 100000
namespace RS
open PySem PySem.Spec PyProof.Rows L2
/-! ### t[::-1] -/
section
variable {P : Program} {w : World} {A : Around} {E : Value → Shared → Prop} {s : Shared}
theorem adjust_rev (n : Nat) : Builtin.Slice.sliceAdjust none none (-1) (n : Int) = ((n : Int) - 1, -1) := by
  unfold Builtin.Slice.sliceAdjust
  rfl
theorem places_rev (n : Nat) : Builtin.Slice.slicePlaces ((n : Int) - 1) (-1) (-1) = n := by
  unfold Builtin.Slice.slicePlaces
  rw [if_neg (by decide)]
  split
  · rw [show (-(-1 : Int)) = 1 from rfl, Int.ediv_one]
    omega
  · omega
theorem applied_rev {sl : Addr} {t : Tok} {n : Nat} {Q : Int × Int × Nat → Shared → Prop} (hs : s.heap.IsSliceOf sl .none .none (.int (-1) t)) (h : Q ((n : Int) - 1, -1, n) s) :
    wpAny (model P w) A (Builtin.Slice.sliceApplied (.ref sl) (pure (n : Int))) Q E s := by
  obtain ⟨os, hos, hcs, hds⟩ := id hs
  unfold Builtin.Slice.sliceApplied Builtin.Slice.sliceFields
  refine wpAny_bind (wpAny_bind (wpAny_field hos hds (x := .none) rfl (wpAny_bind (wpAny_field hos hds (x := .none) rfl (wpAny_bind (wpAny_field hos hds (x := .int (-1) t) rfl (wpAny_pure ?_)))))))
  refine wpAny_bind (slicePart_int ?_)
  show wpAny _ _ (if ((-1 : Int) == 0) = true then _ else _) _ _ s
  rw [if_neg (by decide)]
  refine wpAny_bind (slicePart_none (wpAny_bind (slicePart_none (wpAny_bind (wpAny_pure ?_)))))
  show wpAny _ _ (match Builtin.Slice.sliceAdjust none none (-1) (n : Int) with | (lo, hi) => pure (lo, (-1 : Int), Builtin.Slice.slicePlaces lo hi (-1))) _ _ s
  rw [adjust_rev]
  show wpAny _ _ (pure ((n : Int) - 1, (-1 : Int), Builtin.Slice.slicePlaces ((n : Int) - 1) (-1) (-1))) _ _ s
  rw [places_rev]
  exact wpAny_pure h
theorem fm_rev (xs : Array Value) : ∀ k : Nat, k ≤ xs.size → ((List.range k).filterMap fun (m : Nat) => xs[((k : Int) - 1 + (m : Int) * (-1)).toNat]?) = (xs.toList.take k).reverse
  | 0, _ => rfl
  | k + 1, h => by
    have ih := fm_rev xs k (by omega)
    have hk : k < xs.toList.length := by
      rw [Array.length_toList]
      omega
    rw [List.range_succ_eq_map, List.filterMap_cons, List.filterMap_map, List.take_add_one, List.getElem?_eq_getElem hk]
    have e0 : xs[(((k + 1 : Nat) : Int) - 1 + ((0 : Nat) : Int) * (-1)).toNat]? = some xs.toList[k] := by
      have : (((k + 1 : Nat) : Int) - 1 + ((0 : Nat) : Int) * (-1)).toNat = k := by omega
      rw [this, ← Array.getElem?_toList, List.getElem?_eq_getElem hk]
    rw [e0]
    show xs.toList[k] :: _ = (List.take k xs.toList ++ [xs.toList[k]]).reverse
    rw [List.reverse_append, ← ih]
    show _ = xs.toList[k] :: _
    congr 1
    congr 1
    funext m
    show xs[(((k + 1 : Nat) : Int) - 1 + (((m + 1 : Nat)) : Int) * (-1)).toNat]? = _
    have : (((k + 1 : Nat) : Int) - 1 + (((m + 1 : Nat)) : Int) * (-1)) = (k : Int) - 1 + (m : Int) * (-1) := by omega
    rw [this]
theorem getItem_tup_rev {t sl : Addr} {items : Array Value} {tk : Tok} {Q : Value → Shared → Prop} (ht : IsTup s.heap t items) (hs : s.heap.IsSliceOf sl .none .none (.int (-1) tk))
    (h : Q (.ref s.heap.objs.size) { s with heap := s.heap.push { cls := .type "tuple", data := .seq items.toList.reverse.toArray } })
    (hsz : items.size ≤ sizeLine) : wpAny (model P w) A (getItem (.ref t) (.ref sl)) Q E s := by
  have hok : sizeOk (.seq items.toList.reverse.toArray) := by
    show items.toList.reverse.toArray.size ≤ sizeLine
    rw [List.size_toArray, List.length_reverse, Array.length_toList]
    exact hsz
  obtain ⟨os, hos, hcs, hds⟩ := id hs
  have hTs : s.TypeIs (.ref sl) "slice" := ⟨os, hos, hcs⟩
  unfold getItem
  try with_reducible refine wpAny_holding ?_
  first | refine wpAny_bind (wpAny_pure ?_) | skip
  refine wpAny_bind (wpAny_sequenceKey ht.typeIs (by decide) ?_)
  refine wpAny_bind (wpAny_callSpecial?_slot (name := Str.ofString "__getitem__") ht.typeIs PyProof.Rows.slot_tuple_getitem (wpAny_call_entry PyProof.Rows.slot_tuple_getitem ht.typeIs PyProof.Rows.entry_tuple_getitem ?_ (PyProof.Rows.args_tuple_getitem _ _)))
  show wpAny _ _ (Builtin.Tuple.tupleItemsOf (.ref t) >>= _) _ _ s
  refine wpAny_bind (tupleItemsOf_ ht ?_)
  refine wpAny_bind (wpAny_typeOf hTs ?_)
  rw [if_pos (by decide)]
  refine wpAny_bind (applied_rev hs ?_)
  have hno : ¬ ((((items.size : Int) - 1) == 0 && (-1 : Int) == 1 && items.size == items.size) = true) := by
    rw [show ((-1 : Int) == 1) = false from rfl, Bool.and_false, Bool.false_and]
    exact Bool.false_ne_true
  show wpAny _ _ (if (((items.size : Int) - 1) == 0 && (-1 : Int) == 1 && items.size == items.size) = true then _ else _) _ _ s
  rw [if_neg hno, fm_rev items items.size (Nat.le_refl _), show items.toList.take items.size = items.toList from List.take_of_length_le (by rw [Array.length_toList]; exact Nat.le_refl _)]
  first
    | exact wpAny_bind (m := Builtin.Tuple.tupleExact _) (wpAny_newObj_type (wpAny_pure ⟨_, rfl, wpAny_pure h⟩) hok)
    | exact wpAny_bind (m := Builtin.Tuple.tupleExact _) (wpAny_newObj_type (wpAny_bind (wpAny_pure (wpAny_pure ⟨_, rfl, wpAny_pure h⟩))) hok)
    | exact wpAny_bind (wpAny_bind (m := Builtin.Tuple.tupleExact _) (wpAny_newObj_type (wpAny_pure (wpAny_pure ⟨_, rfl, wpAny_pure h⟩)) hok))
    | exact wpAny_bind (wpAny_bind (m := Builtin.Tuple.tupleExact _) (wpAny_newObj_type (wpAny_pure ⟨_, rfl, wpAny_pure h⟩) hok))
end
section
variable {X : Cx} {e st : Expr} {te ts : TE} {pos p2 : Pos}
def tRev (K : PySem.W.Frag) (te ts : TE) : TE := fun σ H Q => te σ H fun x H1 => ts σ H1 fun y H2 => y = .int (-1) ∧ ∃ a xs, x = .ref a ∧ SqT K H2 a xs ∧ ∀ p, H2 p = none → Q (.ref p) (upd H2 p (.tup xs.reverse))
theorem pe_rev (he : PE X e te) (hs : PE X st ts) : PE X (.Subscript e (.Slice none none (some st) p2) pos) (tRev X.K te ts) := by
  refine ⟨fun pins s σ H Q I h => ?_⟩
  refine Subscript_ (thn (he.run pins s σ H _ I h) fun v s1 ⟨x, H1, I1, r1, q1⟩ => ?_)
  refine wpAny_Slice ?_
  rw [evalPart_none, evalPart_some]
  refine wpAny_pure ?_
  refine wpAny_pure ?_
  refine thn (hs.run pins s1 σ H1 _ I1 q1) fun vs s3 ⟨y, H3, I3, r3, q3⟩ => ?_
  obtain ⟨rfl, a, xs, rfl, hx, q⟩ := q3
  obtain ⟨t, rfl⟩ := r3
  cases r1
  have I4 : Inv X pins σ H3 { s3 with heap := s3.heap.push { cls := .type "slice", data := .fields #[.none, .none, .int (-1) t] } } := I3.kept (t' := s3.toks) fun b ob q => Heap.get?_push_of_some _ q
  obtain ⟨its, r, ht, hz⟩ := I4.tuple hx
  have hlen : its.toArray.size = xs.length := by
    rw [List.size_toArray]
    exact r.length.symm
  have hg : wpAny (model X.prog X.w) X.A (getItem (.ref a) (.ref s3.heap.objs.size)) (EP X pins σ Q) X.xe { s3 with heap := s3.heap.push { cls := .type "slice", data := .fields #[.none, .none, .int (-1) t] } } := by
    refine getItem_tup_rev ht (Heap.IsSliceOf.new ..) ?_ (by rw [hlen]; exact hz)
    refine ⟨.ref _, _, I4.laid (t' := s3.toks) (o := .tup xs.reverse) (fun b ob q => Heap.get?_push_of_some _ q) (Nat.le_refl _) ?_, rfl, q _ (I4.hok.fresh (Nat.le_refl _))⟩
    refine ⟨by rw [List.length_reverse]; exact hz, _, ?_, IsTup.new _ _⟩
    exact r.reverse
  show wpAny (model X.prog X.w) X.A (subscriptTail e (.Slice none none (some st) p2) (.ref a) (.ref s3.heap.objs.size)) (EP X pins σ Q) X.xe _
  exact tail_any (ops := [.ref a, .ref s3.heap.objs.size]) ht.typeIs PyProof.Rows.slot_tuple_getitem.lookup hg (by with_unfolding_all rfl)
end
end RS

set_option Elab.async false
set_option linter.all false
set_option maxRecDepth 100000
namespace RS
open PySem PySem.Spec PyProof.Rows L2
theorem Keep.tupq {K : PySem.W.Frag} {d l a : Addr} {n : Int} {H H' : Hp} {xs : List V} (k : Keep d l H H') (D : Deck H d l n) (h : SqT K H a xs) : SqT K H' a xs := by
  obtain ⟨cs, c1, _⟩ := D.cards
  rcases h with (h | ⟨o, h⟩) | h
  · exact .inl (.inl (k _ _ (D.tup_ne h).1 (D.tup_ne h).2 h))
  · refine .inl (.inr ⟨o, k _ _ ?_ ?_ h⟩)
    · rintro rfl
      rw [D.top] at h
      cases h
    · rintro rfl
      rw [c1] at h
      cases h
  · exact .inr h
theorem cut_12 (xs : List V) : cutV xs (some 1) (some 2) = (xs.drop 1).take 1 := by
  have e1 : HT.sIx xs.length 0 (some 1) = min 1 xs.length := HT.sIx_nat _ _ 1
  have e2 : HT.sIx xs.length xs.length (some 2) = min 2 xs.length := HT.sIx_nat _ _ 2
  unfold cutV
  rw [e1, e2]
  match xs with
  | [] => rfl
  | [a] => rfl
  | a :: b :: r =>
    have : min 2 (a :: b :: r).length - min 1 (a :: b :: r).length = 1 := by
      simp only [List.length_cons]
      omega
    rw [this]
    have : min 1 (a :: b :: r).length = 1 := by
      simp only [List.length_cons]
      omega
    rw [this]
theorem fine_bools (a b c : Bool) : Fine (.list [.bool a, .bool b, .bool c]) := by
  refine ⟨by simp [PyData.showable, PyData.showableAll], by simp [PyData.hasDict, PyData.hasDictAll], by simp [PyData.depth, PyData.depthAll], ?_⟩
  show costAll [.bool a, .bool b, .bool c] + 3 ≤ sizeLine
  show 5 + 2 + (5 + 2 + (5 + 2 + 0)) + 3 ≤ sizeLine
  rw [sizeLine_eq]
  omega
end RS

set_option Elab.async false
set_option linter.all false
set_option maxRecDepth 100000
namespace RS
open PySem PySem.Spec PyProof.Rows L2
/-! ### the smallest thresholds for which two collections differ -/
def EqAt (s1 s2 : List (Int × Int)) (lo hi : Int) : Prop := swCount s1 lo hi = swCount s2 lo hi
def Least (s1 s2 : List (Int × Int)) : Option (Int × Int) → Prop
  | none => ∀ lo hi, lo < hi → EqAt s1 s2 lo hi
  | some p => p.1 < p.2 ∧ ¬ EqAt s1 s2 p.1 p.2 ∧ ∀ lo hi, lo < hi → (lo < p.1 ∨ (lo = p.1 ∧ hi < p.2)) → EqAt s1 s2 lo hi
theorem least_unique {s1 s2 : List (Int × Int)} : ∀ {r r' : Option (Int × Int)}, Least s1 s2 r → Least s1 s2 r' → r = r'
  | none, none, _, _ => rfl
  | none, some p, h, h' => absurd (h p.1 p.2 h'.1) h'.2.1
  | some p, none, h, h' => absurd (h' p.1 p.2 h.1) h.2.1
  | some p, some q, h, h' => by
    have a := h.2.2 q.1 q.2 h'.1
    have b := h'.2.2 p.1 p.2 h.1
    have c : ¬ (q.1 < p.1 ∨ (q.1 = p.1 ∧ q.2 < p.2)) := fun z => h'.2.1 (a z)
    have d : ¬ (p.1 < q.1 ∨ (p.1 = q.1 ∧ p.2 < q.2)) := fun z => h.2.1 (b z)
    have e : p = q := Prod.ext (by omega) (by omega)
    rw [e]
theorem least_symm {s1 s2 : List (Int × Int)} : ∀ {r : Option (Int × Int)}, Least s1 s2 r → Least s2 s1 r
  | none, h => fun lo hi hl => (h lo hi hl).symm
  | some p, h => ⟨h.1, fun z => h.2.1 z.symm, fun lo hi hl z => (h.2.2 lo hi hl z).symm⟩
theorem swCount_congr {sw : List (Int × Int)} {lo hi lo' hi' : Int} (h : ∀ s ∈ sw, (s.1 ≤ lo ∧ hi ≤ s.2) ↔ (s.1 ≤ lo' ∧ hi' ≤ s.2)) : swCount sw lo hi = swCount sw lo' hi' := by
  unfold swCount
  congr 1
  refine List.map_congr_left ?_
  intro s hs
  unfold inSw
  have := h s hs
  by_cases c : s.1 ≤ lo ∧ hi ≤ s.2
  · rw [if_pos c, if_pos (this.mp c)]
  · rw [if_neg c, if_neg (fun z => c (this.mpr z))]
theorem row_eq {s1 s2 : List (Int × Int)} {lo Y : Int} {M : Int → Prop} (h1 : ∀ s ∈ s1, lo < s.2 → M (s.2 + 1)) (h2 : ∀ s ∈ s2, lo < s.2 → M (s.2 + 1)) (h0 : M (lo + 1))
    (hE : ∀ hi, M hi → hi < Y → EqAt s1 s2 lo hi) : ∀ (n : Nat) (hi : Int), (hi - lo).toNat = n → lo < hi → hi < Y → EqAt s1 s2 lo hi
  | 0, hi, hn, hl, _ => by omega
  | n + 1, hi, hn, hl, hY => by
    by_cases hm : M hi
    · exact hE hi hm hY
    · have hne : hi ≠ lo + 1 := by
        rintro rfl
        exact hm h0
      have ih := row_eq h1 h2 h0 hE n (hi - 1) (by omega) (by omega) (by omega)
      unfold EqAt at ih ⊢
      have c : ∀ sw : List (Int × Int), (∀ s ∈ sw, lo < s.2 → M (s.2 + 1)) → swCount sw lo hi = swCount sw lo (hi - 1) := by
        intro sw h
        refine swCount_congr ?_
        intro s hs
        have : s.2 ≠ hi - 1 := by
          intro z
          have := h s hs (by omega)
          rw [z, Int.sub_add_cancel] at this
          exact hm this
        omega
      rw [c s1 h1, c s2 h2]
      exact ih
theorem col_eq {s1 s2 : List (Int × Int)} {X m : Int} {L : Int → Prop} (b1 : ∀ s ∈ s1, m ≤ s.1) (b2 : ∀ s ∈ s2, m ≤ s.1) (h1 : ∀ s ∈ s1, L s.1) (h2 : ∀ s ∈ s2, L s.1)
    (hE : ∀ lo, L lo → lo < X → ∀ hi, lo < hi → EqAt s1 s2 lo hi) : ∀ (n : Nat) (lo : Int), (lo - m + 1).toNat = n → lo < X → ∀ hi, lo < hi → EqAt s1 s2 lo hi
  | 0, lo, hn, hX, hi, hl => by
    have c : ∀ sw : List (Int × Int), (∀ s ∈ sw, m ≤ s.1) → swCount sw lo hi = 0 := by
      intro sw h
      rw [← swCount_filter, List.length_eq_zero_iff, List.filter_eq_nil_iff]
      intro s hs z
      have := of_decide_eq_true (Bool.and_eq_true_iff.mp z).1
      have := h s hs
      omega
    unfold EqAt
    rw [c s1 b1, c s2 b2]
  | n + 1, lo, hn, hX, hi, hl => by
    by_cases hm : L lo
    · exact hE lo hm hX hi hl
    · have ih := col_eq b1 b2 h1 h2 hE n (lo - 1) (by omega) (by omega) hi (by omega)
      unfold EqAt at ih ⊢
      have c : ∀ sw : List (Int × Int), (∀ s ∈ sw, L s.1) → swCount sw lo hi = swCount sw (lo - 1) hi := by
        intro sw h
        refine swCount_congr ?_
        intro s hs
        have : s.1 ≠ lo := by
          intro z
          have := h s hs
          rw [z] at this
          exact hm this
        omega
      rw [c s1 h1, c s2 h2]
      exact ih
theorem low_bound (sw : List (Int × Int)) : ∃ m : Int, ∀ s ∈ sw, m ≤ s.1 := by
  induction sw with
  | nil => exact ⟨0, (fun _ h => nomatch h)⟩
  | cons a r ih =>
    obtain ⟨m, h⟩ := ih
    refine ⟨min m a.1, fun s hs => ?_⟩
    rcases List.mem_cons.mp hs with rfl | hs
    · omega
    · have := h s hs
      omega
theorem cols {s1 s2 : List (Int × Int)} {X : Int} {L : Int → Prop} (h1 : ∀ s ∈ s1, L s.1) (h2 : ∀ s ∈ s2, L s.1)
    (hE : ∀ lo, L lo → lo < X → ∀ hi, lo < hi → EqAt s1 s2 lo hi) (lo : Int) (hX : lo < X) (hi : Int) (hl : lo < hi) : EqAt s1 s2 lo hi := by
  obtain ⟨m1, g1⟩ := low_bound s1
  obtain ⟨m2, g2⟩ := low_bound s2
  refine col_eq (m := min m1 m2) ?_ ?_ h1 h2 hE _ lo rfl hX hi hl
  · intro s hs
    have := g1 s hs
    omega
  · intro s hs
    have := g2 s hs
    omega
/-- what a search row by row, each row from its least threshold on, has found -/
theorem least_found {s1 s2 : List (Int × Int)} {ls hl : List Int} {M : Int → Int → Prop} {j jj : Nat} {lo hi : Int} (sl : ls.Pairwise fun a b => a ≤ b) (sh : hl.Pairwise fun a b => a ≤ b)
    (h1 : ∀ s ∈ s1, s.1 ∈ ls) (h2 : ∀ s ∈ s2, s.1 ∈ ls) (m1 : ∀ l, ∀ s ∈ s1, l < s.2 → M l (s.2 + 1)) (m2 : ∀ l, ∀ s ∈ s2, l < s.2 → M l (s.2 + 1)) (m0 : ∀ l, M l (l + 1))
    (gj : ls[j]? = some lo) (hm : ∀ h, h ∈ hl ↔ M lo h) (gjj : hl[jj]? = some hi) (hlt : lo < hi)
    (outer : ∀ (i : Nat) (l : Int), i < j → ls[i]? = some l → ∀ h, M l h → EqAt s1 s2 l h) (inner : ∀ (i : Nat) (h : Int), i < jj → hl[i]? = some h → EqAt s1 s2 lo h) (ne : ¬ EqAt s1 s2 lo hi) :
    Least s1 s2 (some (lo, hi)) := by
  have before : ∀ {l : List Int} {j : Nat} {x y : Int}, (l.Pairwise fun a b => a ≤ b) → l[j]? = some x → y ∈ l → y < x → ∃ i, i < j ∧ l[i]? = some y := by
    intro l j x y hp gx my hyx
    obtain ⟨i, gi⟩ := List.mem_iff_getElem?.mp my
    refine ⟨i, Nat.lt_of_not_le fun hji => ?_, gi⟩
    obtain ⟨hj, ex⟩ := List.getElem?_eq_some_iff.mp gx
    obtain ⟨hi', ey⟩ := List.getElem?_eq_some_iff.mp gi
    by_cases e : i = j
    · subst e
      rw [ex] at ey
      omega
    · have := List.pairwise_iff_getElem.mp hp j i hj hi' (by omega)
      omega
  have rows : ∀ l, l ∈ ls → l < lo → ∀ h, l < h → EqAt s1 s2 l h := by
    intro l ml hlo h hh
    obtain ⟨i, hij, gi⟩ := before sl gj ml hlo
    exact row_eq (M := M l) (Y := h + 1) (m1 l) (m2 l) (m0 l) (fun h' hM _ => outer i l hij gi h' hM) _ h rfl hh (by omega)
  refine ⟨hlt, ne, ?_⟩
  rintro l h hl' (hlo | ⟨rfl, hhi⟩)
  · exact cols (X := lo) (L := fun l => l ∈ ls) h1 h2 rows l hlo h hl'
  · refine row_eq (M := M l) (Y := hi) (m1 l) (m2 l) (m0 l) ?_ _ h rfl hl' hhi
    intro h' hM hlt'
    obtain ⟨i, hij, gi⟩ := before sh gjj ((hm h').mpr hM) hlt'
    exact inner i h' hij gi
theorem least_none {s1 s2 : List (Int × Int)} {ls : List Int} {M : Int → Int → Prop} (h1 : ∀ s ∈ s1, s.1 ∈ ls) (h2 : ∀ s ∈ s2, s.1 ∈ ls)
    (m1 : ∀ l, ∀ s ∈ s1, l < s.2 → M l (s.2 + 1)) (m2 : ∀ l, ∀ s ∈ s2, l < s.2 → M l (s.2 + 1)) (m0 : ∀ l, M l (l + 1))
    (outer : ∀ l, l ∈ ls → ∀ h, M l h → EqAt s1 s2 l h) : Least s1 s2 none := by
  intro l h hl'
  refine cols (X := l + 1) (L := fun l => l ∈ ls) h1 h2 ?_ l (by omega) h hl'
  intro l' ml _ h' hh
  exact row_eq (M := M l') (Y := h' + 1) (m1 l') (m2 l') (m0 l') (fun x hM _ => outer l' ml x hM) _ h' rfl hh (by omega)
theorem least_alike {h1 h2 : List Int} {r : Option (Int × Int)} (h : Least (swingsOf h1) (swingsOf h2) r) : decide (swingsOf h1 = swingsOf h2) = decide (r = none) := by
  by_cases e : swingsOf h1 = swingsOf h2
  · have : Least (swingsOf h1) (swingsOf h2) none := by
      intro lo hi _
      unfold EqAt
      rw [e]
    rw [least_unique h this, decide_eq_true e, decide_eq_true rfl]
  · cases r with
    | none =>
      refine absurd ((alike_iff (T := h1 ++ h2) (fun x hx => List.mem_append_left _ hx) (fun x hx => List.mem_append_right _ hx)).mp ?_) e
      intro lo _ hi _ hlt
      rw [← swings_count hlt, ← swings_count hlt]
      exact h lo hi hlt
    | some p => rw [decide_eq_false e, decide_eq_false (fun z => nomatch z)]
theorem least_edge : Least (swingsOf [-1000000000, 1000000000]) (swingsOf [5]) (some (-1000000000, -999999999)) := by
  have c1 : ∀ lo hi : Int, lo < hi → swCount (swingsOf [-1000000000, 1000000000]) lo hi = inSw lo hi (-1000000000) 1000000000 := fun lo hi h => by
    rw [swings_count h, (cyc_two h (by decide)).1]
  have c2 : ∀ lo hi : Int, lo < hi → swCount (swingsOf [5]) lo hi = 0 := fun lo hi h => by
    rw [swings_count h, cyc_one]
  refine ⟨by decide, ?_, ?_⟩
  · unfold EqAt
    rw [c1 _ _ (by decide), c2 _ _ (by decide)]
    decide
  · intro lo hi hlt hz
    unfold EqAt
    rw [c1 _ _ hlt, c2 _ _ hlt]
    unfold inSw
    rw [if_neg]
    show ¬ _
    have hz' : lo < -1000000000 ∨ (lo = -1000000000 ∧ hi < -999999999) := hz
    omega
/-- a pair or None, in the heap; as data -/
def OptP (H : Hp) : V → Option (Int × Int) → Prop
  | v, none => v = .non
  | v, some p => ∃ t, v = .ref t ∧ H t = some (.tup [.int p.1, .int p.2])
def dO : Option (Int × Int) → PyData
  | none => .none
  | some p => .tuple (dInts [p.1, p.2])
theorem OptP.same {H H' : Hp} (s : Same H H') : ∀ {v : V} {r : Option (Int × Int)}, OptP H v r → OptP H' v r
  | _, none, h => h
  | _, some p, ⟨t, e, h⟩ => ⟨t, e, s _ _ h⟩
theorem OptP.dp {K : PySem.W.Frag} {H : Hp} : ∀ {v : V} {r : Option (Int × Int)}, OptP H v r → Dp K H v (dO r)
  | _, none, h => by
    have e : _ = V.non := h
    rw [e]
    exact .non
  | _, some p, ⟨t, e, h⟩ => by
    rw [e]
    exact .tup (SqT.of h) (dpInts [p.1, p.2])
theorem Pairs.app {H : Hp} {p1 p2 : List Addr} {s1 s2 : List (Int × Int)} (h1 : Pairs H p1 s1) (h2 : Pairs H p2 s2) : Pairs H (p1 ++ p2) (s1 ++ s2) := by
  refine ⟨by rw [List.length_append, List.length_append, h1.1, h2.1], ?_⟩
  intro i q t hq ht
  by_cases hi : i < p1.length
  · rw [List.getElem?_append_left hi] at hq
    rw [List.getElem?_append_left (by rw [← h1.1]; exact hi)] at ht
    exact h1.2 i q t hq ht
  · rw [List.getElem?_append_right (by omega)] at hq
    rw [List.getElem?_append_right (by rw [← h1.1]; omega), ← h1.1] at ht
    exact h2.2 _ q t hq ht
end RS

set_option Elab.async false
set_option linter.all false
set_option maxRecDepth 100000
namespace RS
open PySem PySem.Spec PyProof.Rows L2
theorem least_bound {h1 h2 : List Int} (b1 : ∀ x ∈ h1, Ht x) (b2 : ∀ x ∈ h2, Ht x) {p : Int × Int} (h : Least (swingsOf h1) (swingsOf h2) (some p)) : Ht p.1 ∧ Ht p.2 := by
  have key : ∀ hs : List Int, (∀ x ∈ hs, Ht x) → 1 ≤ swCount (swingsOf hs) p.1 p.2 → Ht p.1 ∧ Ht p.2 := by
    intro hs b hc
    obtain ⟨s, hs', g1, g2⟩ := swCount_some hc
    obtain ⟨m1, m2, m3⟩ := swings_mem s hs'
    have := b _ m1
    have := b _ m2
    have := h.1
    unfold Ht at *
    omega
  have hn := h.2.1
  unfold EqAt at hn
  by_cases c : 1 ≤ swCount (swingsOf h1) p.1 p.2
  · exact key h1 b1 c
  · exact key h2 b2 (by omega)
def Small : Option (Int × Int) → Prop
  | none => True
  | some p => Ht p.1 ∧ Ht p.2
theorem least_small {h1 h2 : List Int} (b1 : ∀ x ∈ h1, Ht x) (b2 : ∀ x ∈ h2, Ht x) : ∀ {r : Option (Int × Int)}, Least (swingsOf h1) (swingsOf h2) r → Small r
  | none, _ => trivial
  | some _, h => least_bound b1 b2 h
theorem fine_o : ∀ {r : Option (Int × Int)}, Small r → Fine (dO r)
  | none, _ => ⟨rfl, rfl, Nat.zero_le _, by show 4 ≤ sizeLine; rw [sizeLine_eq]; omega⟩
  | some p, h => fine_tup (fun n hn => by
      have : n = p.1 ∨ n = p.2 := by simpa using hn
      rcases this with rfl | rfl
      · exact h.1.abs
      · exact h.2.abs) (by simp)
theorem fine_o4 {r : Option (Int × Int)} (h : Small r) (b : Bool) : Fine (.list [dO r, dO r, dO r, .bool b]) := by
  have f := fine_o h
  refine ⟨?_, ?_, ?_, ?_⟩
  · simp only [PyData.showable, PyData.showableAll, f.sh, Bool.and_true]
  · simp only [PyData.hasDict, PyData.hasDictAll, f.nd, Bool.or_false]
  · have d : (dO r).depth ≤ 1 := by
      cases r with
      | none => exact Nat.zero_le _
      | some p =>
        show PyData.depth (.tuple (dInts [p.1, p.2])) ≤ 1
        simp only [PyData.depth, dInts_depth]
        omega
    simp only [PyData.depth, PyData.depthAll]
    omega
  · have c : cost (dO r) ≤ 4000 := by
      cases r with
      | none =>
        show 4 ≤ 4000
        omega
      | some p =>
        show costAll (dInts [p.1, p.2]) + 3 ≤ 4000
        rw [dInts_cost]
        show 1923 * 2 + 3 ≤ 4000
        omega
    show costAll [dO r, dO r, dO r, .bool b] + 3 ≤ sizeLine
    show cost (dO r) + 2 + (cost (dO r) + 2 + (cost (dO r) + 2 + (5 + 2 + 0))) + 3 ≤ sizeLine
    rw [sizeLine_eq]
    omega
theorem OptP.isN {H : Hp} : ∀ {v : V} {r : Option (Int × Int)}, OptP H v r → decide (v = .non) = decide (r = none)
  | _, none, h => by
    have e : _ = V.non := h
    rw [e, decide_eq_true rfl, decide_eq_true rfl]
  | _, some p, ⟨t, e, h⟩ => by
    rw [e, decide_eq_false (fun z => nomatch z), decide_eq_false (fun z => nomatch z)]
theorem shaped_o : ∀ r : Option (Int × Int), SeqAt.shaped (dO r) = true
  | none => rfl
  | some p => shaped_ti [p.1, p.2]
end RS

set_option Elab.async false
set_option linter.all false
set_option maxRecDepth 100000
namespace RS
open PySem PySem.Spec PyProof.Rows L2
/-! ### all thresholds from -1 to 8 -/
def thrRow (i n : Nat) : List (Int × Int) := (List.range n).map fun (j : Nat) => (-1 + (i : Int), -1 + (i : Int) + 1 + (j : Int))
def thrTo (n : Nat) : List (Int × Int) := (List.range n).flatMap fun i => thrRow i (9 - i)
def thr : List (Int × Int) := thrTo 9
theorem thrRow_succ (i n : Nat) : thrRow i (n + 1) = thrRow i n ++ [(-1 + (i : Int), -1 + (i : Int) + 1 + (n : Int))] := by
  unfold thrRow
  rw [List.range_succ, List.map_append]
  rfl
theorem thrTo_succ (n : Nat) : thrTo (n + 1) = thrTo n ++ thrRow n (9 - n) := by
  unfold thrTo
  rw [List.range_succ, List.flatMap_append]
  simp
theorem thr_mem {lo hi : Int} : (lo, hi) ∈ thr ↔ (-1 ≤ lo ∧ lo < hi ∧ hi ≤ 8) := by
  unfold thr thrTo thrRow
  rw [List.mem_flatMap]
  constructor
  · rintro ⟨i, hi', hm⟩
    have := List.mem_range.mp hi'
    obtain ⟨j, hj, e⟩ := List.mem_map.mp hm
    have := List.mem_range.mp hj
    have e1 := (Prod.mk.inj e).1
    have e2 := (Prod.mk.inj e).2
    omega
  · rintro ⟨h1, h2, h3⟩
    refine ⟨(lo + 1).toNat, List.mem_range.mpr (by omega), List.mem_map.mpr ⟨(hi - lo - 1).toNat, List.mem_range.mpr (by omega), ?_⟩⟩
    exact Prod.ext (by show _ = lo; omega) (by show _ = hi; omega)
theorem thr_len : thr.length = 45 := by decide
theorem thrTo_len (n : Nat) (h : n ≤ 9) : (thrTo n).length ≤ 45 := by
  have : n = 0 ∨ n = 1 ∨ n = 2 ∨ n = 3 ∨ n = 4 ∨ n = 5 ∨ n = 6 ∨ n = 7 ∨ n = 8 ∨ n = 9 := by omega
  rcases this with rfl | rfl | rfl | rfl | rfl | rfl | rfl | rfl | rfl | rfl <;> decide
theorem Pairs.snoc {H : Hp} {ps : List Addr} {sw : List (Int × Int)} {p : Addr} {s : Int × Int} (h : Pairs H ps sw) (hp : H p = some (.tup [.int s.1, .int s.2])) : Pairs H (ps ++ [p]) (sw ++ [s]) := by
  refine h.app ⟨rfl, ?_⟩
  intro i q t hq ht
  cases i with
  | zero =>
    cases hq
    cases ht
    exact hp
  | succ i => simp at hq
theorem Pairs.nil {H : Hp} : Pairs H [] [] := ⟨rfl, fun i q t h => by simp at h⟩
/-- pairs stand in tuples, so a list that changes is none of them -/
theorem Pairs.updL {H : Hp} {ps : List Addr} {sw : List (Int × Int)} {L : Addr} {xs ys : List V} (h : Pairs H ps sw) (hL : H L = some (.lst xs)) : Pairs (upd H L (.lst ys)) ps sw := by
  refine ⟨h.1, fun i q t hq ht => ?_⟩
  have e := h.2 i q t hq ht
  rw [upd_ne]
  · exact e
  · rintro rfl
    rw [hL] at e
    cases e
def numsOf16 (sw : List (Int × Int)) : List Int := thr.map fun t => ((swCount sw t.1 t.2 : Nat) : Int)
end RS
namespace RS
open PySem PySem.Spec PyProof.Rows L2
def lev16 : List Int := [-1, 0, 1, 2, 3, 4, 5, 6, 7, 8]
theorem lev_mem {x : Int} (h : -1 ≤ x ∧ x ≤ 8) : x ∈ lev16 := by
  have : x = -1 ∨ x = 0 ∨ x = 1 ∨ x = 2 ∨ x = 3 ∨ x = 4 ∨ x = 5 ∨ x = 6 ∨ x = 7 ∨ x = 8 := by omega
  unfold lev16
  simp only [List.mem_cons, List.not_mem_nil, or_false]
  exact this
theorem lev_rng {x : Int} (h : x ∈ lev16) : -1 ≤ x ∧ x ≤ 8 := by
  unfold lev16 at h
  simp only [List.mem_cons, List.not_mem_nil, or_false] at h
  omega
/-- swings between 0 and 6 -/
def In6 (s : Int × Int) : Prop := 0 ≤ s.1 ∧ s.1 < s.2 ∧ s.2 ≤ 6
theorem nums_perm {s1 s2 : List (Int × Int)} (b1 : ∀ s ∈ s1, In6 s) (b2 : ∀ s ∈ s2, In6 s) (h : numsOf16 s1 = numsOf16 s2) : s1.Perm s2 := by
  have i6 : ∀ s : Int × Int, In6 s → s.1 ∈ lev16 ∧ s.2 ∈ lev16 ∧ s.1 < s.2 := by
    intro s hs
    unfold In6 at hs
    exact ⟨lev_mem (by omega), lev_mem (by omega), hs.2.1⟩
  refine sw_unique (T := lev16) _ s1 s2 (Nat.le_refl _) (fun s hs => i6 s (b1 s hs)) (fun s hs => i6 s (b2 s hs)) ?_
  intro lo hlo hi hhi hlt
  have m : (lo, hi) ∈ thr := thr_mem.mpr ⟨(lev_rng hlo).1, hlt, (lev_rng hhi).2⟩
  obtain ⟨i, gi⟩ := List.mem_iff_getElem?.mp m
  have e : (numsOf16 s1)[i]? = (numsOf16 s2)[i]? := by rw [h]
  unfold numsOf16 at e
  rw [List.getElem?_map, List.getElem?_map, gi] at e
  have := Option.some.inj e
  have e2 : ((swCount s1 lo hi : Nat) : Int) = ((swCount s2 lo hi : Nat) : Int) := this
  omega
theorem merge_of_perm {s : List (Int × Int)} {hs : List Int} (p : s.Perm (swingsOf hs)) : s.mergeSort lexLe = swingsOf hs :=
  sorted_one ((List.mergeSort_perm _ _).trans p) (List.pairwise_mergeSort lex_trans lex_total _) (swings_sorted hs)
theorem swCount_mono {lo hi lo' hi' : Int} (h1 : lo' ≤ lo) (h2 : hi ≤ hi') : ∀ sw : List (Int × Int), swCount sw lo' hi' ≤ swCount sw lo hi
  | [] => Nat.le_refl _
  | s :: sw => by
    have ih := swCount_mono h1 h2 sw
    unfold swCount at ih ⊢
    rw [List.map_cons, List.map_cons, List.sum_cons, List.sum_cons]
    have : inSw lo' hi' s.1 s.2 ≤ inSw lo hi s.1 s.2 := by
      unfold inSw
      split
      · rw [if_pos (by omega)]
        exact Nat.le_refl _
      · exact Nat.zero_le _
    omega
theorem cyc_mono {hs : List Int} {lo hi lo' hi' : Int} (h : lo < hi) (h1 : lo' ≤ lo) (h2 : hi ≤ hi') : cyc (marks hs lo' hi') ≤ cyc (marks hs lo hi) := by
  rw [← swings_count (by omega), ← swings_count h]
  exact swCount_mono h1 h2 _
theorem eqv_tt2 (as bs : List (Int × Int)) : PyData.eqv (.tuple (dTups (swInts as))) (.tuple (dTups (swInts bs))) = decide (as = bs) := eqv_tt as bs
theorem nums_len (sw : List (Int × Int)) : (numsOf16 sw).length = 45 := by
  unfold numsOf16
  rw [List.length_map, thr_len]
theorem nums_big {sw : List (Int × Int)} (h : sw.length ≤ 100) : ∀ n ∈ numsOf16 sw, n.natAbs < 2 ^ 1000 := by
  intro n hn
  obtain ⟨t, _, rfl⟩ := List.mem_map.mp hn
  have : swCount sw t.1 t.2 ≤ sw.length := by
    rw [← swCount_filter]
    exact List.length_filter_le _ _
  exact big_of ⟨by omega, by omega⟩
end RS

set_option Elab.async false
set_option linter.all false
set_option maxRecDepth 100000
namespace RS
open PySem PySem.Spec PyProof.Rows L2

/-! ### the end of a law whose def may call repr -/
theorem law_callG {P : Program} {w : World} {K : PySem.W.Frag} {mg mb : Str → Option Value} {k : Nat} {fa a : Addr} {fd : FuncData}
    {x : Str} {sp : Sp} {s1 : Shared} {vs : List Value} {ns : List Int}
    (inK : K.In s1.heap) (ng : s1.heap.Ns mainGlobals mg) (nb : s1.heap.Ns builtinsNs mb)
    (bb : ∀ y : Str, y ≠ "__name__" → mb y = bootBuiltins y) (lim : s1.heap.NoLimit) (hgen : s1.gens = #[])
    (ha : s1.heap.get? a = some { cls := .type "list", data := .seq vs.toArray }) (hnts : IntsAre vs ns) (small : ns.length ≤ sizeLine)
    (room : Room k callerA)
    (F : ∀ base : Heap, K.In base → base.Ns mainGlobals mg → FnG P w K mg base CX0 k fa fd [x] sp)
    (bnd : ∀ (s : Shared) (u : Value), BindsTo s fd ⟨[u], []⟩ [(x, u)])
    (prom : ∀ H : Hp, SqL K H a (ns.map V.int) → sp [.ref a] H (fun v _ => v = .bl true) E0) :
    codeAny (model P w) callerA (.call (.ref fa) ⟨[.ref a], []⟩)
      (fun r s' => r = .ok (.ret (.bool true)) ∧ OldK s1.heap s'.heap ∧ s'.os = s1.os ∧ AllBare s'.gens) s1 := by
  have rel := vals_ints hnts
  have lenV := hnts.length
  have main : ∀ H : Hp, (∀ b u, H b = some u → b = a ∧ ∃ o xs, u = .frz o (.lst xs)) → (∀ u, H a = some u → K.lookup a = none) →
      SqL K H a (ns.map V.int) → HOk P w H s1.heap →
      codeAny (model P w) callerA (.call (.ref fa) ⟨[.ref a], []⟩)
        (fun r s' => r = .ok (.ret (.bool true)) ∧ OldK s1.heap s'.heap ∧ s'.os = s1.os ∧ AllBare s'.gens) s1 := by
    intro H only notK sq hok
    have seen : ∀ {b : Addr} {o : Obj}, s1.heap.get? b = some o → H b = none → (hidT s1.heap H).get? b = some o := fun e n => hidT_get e n
    have noDict : ∀ {b : Addr} {o : Obj} {es : Array DictEntry} {ep : Nat}, s1.heap.get? b = some o → o.data = .dict es ep → H b = none := by
      intro b o es ep e d
      cases q : H b with
      | none => rfl
      | some u =>
        obtain ⟨rfl, _⟩ := only b u q
        rw [ha] at e
        cases e
        cases d
    have keepNs : ∀ {b : Addr} {m : Str → Option Value}, s1.heap.Ns b m → (hidT s1.heap H).Ns b m := by
      rintro b m ⟨o, es, ep, e, d, r⟩
      exact ⟨o, es, ep, seen e (noDict e d), d, r⟩
    have inB : K.In (hidT s1.heap H) := by
      intro b o e
      refine seen (inK b o e) ?_
      cases q : H b with
      | none => rfl
      | some u =>
        obtain ⟨rfl, _⟩ := only b u q
        rw [notK u q] at e
        cases e
    obtain ⟨mc, c1, c2⟩ := lim
    have md : Mod K mg (hidT s1.heap H) := ⟨inB, keepNs ng, ⟨mb, keepNs nb, bb⟩, ⟨mc, keepNs c1, c2⟩⟩
    have ev : Env0 P w K mg (hidT s1.heap H) callerA [] s1 H :=
      { frames := rfl, mod := md, bs := fun b o e => of_hidT e, bsz := Nat.le_of_eq (hidT_size _ _), funs := trivial,
        frf := fun b hb => (List.not_mem_nil hb).elim, hok := hok, bare := .of_eq hgen }
    refine codeAny_mono ((F _ inB (keepNs ng)).run callerA [] s1 H ⟨[.ref a], []⟩ [.ref a] [.ref a] _ _ rfl room ev (bnd s1 (.ref a)) (.cons rfl .nil) (prom H sq)) ?_
    intro r s' h
    cases r with
    | error e => exact h.elim
    | ok fl =>
      cases fl with
      | next => exact h.elim
      | brk => exact h.elim
      | cont => exact h.elim
      | ret u =>
        obtain ⟨v, H', os, bare, un, hok', rv, q⟩ := h
        obtain rfl : v = .bl true := q
        obtain rfl : u = Value.bool true := rv
        refine ⟨rfl, OldK.of_keep ?_, os, bare⟩
        intro b o e
        cases q : H b with
        | none => exact un.keep b o e q (fun z => (List.not_mem_nil z).elim) (by simp)
        | some u =>
          obtain ⟨_, ob, xs, rfl⟩ := only b u q
          obtain ⟨e1, _⟩ := hok b _ q
          obtain ⟨e2, _⟩ := hok' b _ (un.frzs b ob _ q)
          rw [e] at e1
          cases e1
          exact e2
  cases hk : K.lookup a with
  | some o =>
    have e := inK a o hk
    rw [ha] at e
    cases e
    refine main (fun _ => none) (fun b u z => nomatch z) (fun u z => nomatch z) ?_ (fun b u z => nomatch z)
    exact .inr ⟨_, vs.toArray, _, hk, rfl, rfl, rfl, by rw [List.size_toArray, lenV]; exact small, by simpa using rel⟩
  | none =>
    let o0 : Obj := { cls := .type "list", data := .seq vs.toArray }
    have at_ : ∀ b u, (if b = a then some (HO.frz o0 (.lst (ns.map V.int))) else none) = some u → b = a ∧ u = HO.frz o0 (.lst (ns.map V.int)) := by
      intro b u z
      by_cases hb : b = a
      · rw [if_pos hb] at z
        exact ⟨hb, (Option.some.inj z).symm⟩
      · rw [if_neg hb] at z
        cases z
    refine main (fun b => if b = a then some (.frz o0 (.lst (ns.map V.int))) else none) ?_ (fun _ _ => hk) (.inl (.inr ⟨o0, if_pos rfl⟩)) ?_
    · intro b u z
      obtain ⟨h1, h2⟩ := at_ b u z
      exact ⟨h1, _, _, h2⟩
    · intro b u z
      obtain ⟨h1, h2⟩ := at_ b u z
      subst h1
      subst h2
      exact ⟨ha, by rw [List.length_map]; exact small, vs, _, rel, ha⟩

theorem walk_ofG {l : PySem.W.OpenLaw} {n k : Nat} {q : Program} {loose : List Str} {XP : (Str → Option Value) → Heap → Prop}
    {YP : World → Heap → Prop} {d : DefRec} {K : Params → PySem.W.Frag} {sp : PySem.W.Frag → Sp} {x : Str}
    (hn : l.most = some n) (hn2 : n ≤ sizeLine) (hdf : d.params.defaults = []) (room : Room k callerA)
    (hY : ∀ (w : World) (h : Heap), YP w h → (K w.params).In h)
    (F : ∀ (w : World) (mg : Str → Option Value) (fa : Addr) (h : Heap), (K w.params).In h → h.Ns mainGlobals mg → mg d.name = some (.ref fa) →
      ∃ fd : FuncData, (∀ (s : Shared) (u : Value), BindsTo s fd ⟨[u], []⟩ [(x, u)]) ∧
        ∀ base : Heap, (K w.params).In base → base.Ns mainGlobals mg → FnG l.prog w (K w.params) mg base CX0 k fa fd [x] (sp (K w.params)))
    (prom : ∀ (K : PySem.W.Frag) (H : Hp) (a : Addr) (ns : List Int), ns.length ≤ n → SqL K H a (ns.map V.int) →
      sp K [.ref a] H (fun v _ => v = .bl true) E0) :
    PySem.W.WalkO q loose XP YP l.row.toRowW d [] (fun f vs => PySem.call f vs) := by
  refine Att.attach_call hn hdf ?_
  intro w s0 s1 mg mb fa o pm cd doc a vs ns G Y ho hd hcd hmg hobj hints hlen hg
  have inK := hY w _ Y
  obtain ⟨fd, hb, hF⟩ := F w mg fa _ inK G.T.g hmg
  exact law_callG inK G.T.g G.T.b G.T.builtins G.T.nolimit hg hobj hints (Nat.le_trans hlen hn2) room hF hb fun H sq => prom _ H a ns hlen sq
end RS
namespace RS
open PySem PySem.Spec PyProof.Rows L2
/-! ### what the top has written -/
/-- the def st stands under its name -/
structure DefAt (K : PySem.W.Frag) (x : Str) (st : Stmt) : Prop where
  ex : ∃ (f : Addr) (oc : Value) (od : Option Addr) (kV dc pm : Value) (an : Option Addr) (cd ct : Value) (sl : Array (Option Value)),
    PySem.W.nsIn K mainGlobals x = some (some (.ref f)) ∧
    K.lookup f = some ⟨oc, od, .func (PySem.W.fnOf x x (defArgs st) (defBody st) (defScope st) .none kV dc pm an cd ct), sl⟩ ∧
    PySem.W.codeIn K cd x = true ∧ PySem.W.keepIn K (.ref f) = true
theorem def_mk {K : PySem.W.Frag} {x : Str} {st : Stmt} {f : Addr} {oc : Value} {od : Option Addr} {kV dc pm : Value} {an : Option Addr} {cd ct : Value}
    {sl : Array (Option Value)} (h1 : PySem.W.nsIn K mainGlobals x = some (some (.ref f)))
    (h2 : K.lookup f = some ⟨oc, od, .func (PySem.W.fnOf x x (defArgs st) (defBody st) (defScope st) .none kV dc pm an cd ct), sl⟩)
    (h3 : PySem.W.codeIn K cd x = true) (h4 : PySem.W.keepIn K (.ref f) = true) : DefAt K x st := ⟨f, oc, od, kV, dc, pm, an, cd, ct, sl, h1, h2, h3, h4⟩
theorem DefAt.get {K : PySem.W.Frag} {x : Str} {st : Stmt} {h : Heap} {mg : Str → Option Value} (d : DefAt K x st) (X : K.In h) (G : h.Ns mainGlobals mg) :
    ∃ (f : Addr) (fd : FuncData), Fun K x x st f fd ∧ mg x = some (.ref f) ∧
      ∃ (kV dc pm : Value) (an : Option Addr) (cd ct : Value), fd = PySem.W.fnOf x x (defArgs st) (defBody st) (defScope st) .none kV dc pm an cd ct := by
  obtain ⟨f, oc, od, kV, dc, pm, an, cd, ct, sl, h1, h2, h3, h4⟩ := d.ex
  exact ⟨f, _, fun_mk h2 h3 h4, PySem.W.mg_of X G h1, kV, dc, pm, an, cd, ct, rfl⟩
end RS

set_option Elab.async false
set_option linter.all false
set_option maxRecDepth 100000
namespace R16
open PySem PySem.Spec PyProof.Rows L2 RS
/-! ### the text -/
def topS (i : Nat) : Stmt := PySem.Challenge.pw_ringswings_k16_whole_passages_and_swings.main.body.getD i (.Pass ⟨0, 0, 0, 0⟩)
/-! ### turning_places -/
abbrev sTurns : Stmt := topS 1
abbrev sIsTurn : Stmt := topS 2
abbrev sNext : Stmt := topS 3
abbrev sAfter : Stmt := topS 4
abbrev nTurns : List Str := ["ring", "place"]
abbrev nIsTurn : List Str := ["ring", "place", "height", "before"]
abbrev nNext : List Str := ["ring", "place", "height"]
abbrev nAfter : List Str := ["ring", "place"]
theorem scTurns : FnScope nTurns ["ring"] (defScope sTurns) := ⟨rfl, rfl, rfl, by decide +kernel, rfl, by decide +kernel, by decide +kernel⟩
theorem scIsTurn : FnScope nIsTurn ["ring", "place"] (defScope sIsTurn) := ⟨rfl, rfl, rfl, by decide +kernel, rfl, by decide +kernel, by decide +kernel⟩
theorem scNext : FnScope nNext ["ring", "place"] (defScope sNext) := ⟨rfl, rfl, rfl, by decide +kernel, rfl, by decide +kernel, by decide +kernel⟩
theorem scAfter : FnScope nAfter ["ring", "place"] (defScope sAfter) := ⟨rfl, rfl, rfl, by decide +kernel, rfl, by decide +kernel, by decide +kernel⟩
section
variable {P : Program} {w : World} {K : PySem.W.Frag} {mg : Str → Option Value} {base : Heap}
def spAfter (K : PySem.W.Frag) : Sp := fun vs H Q _ => ∃ (a : Addr) (hs : List Int) (i : Nat), vs = [.ref a, .int (i : Int)] ∧ SqT K H a (hs.map V.int) ∧ i < hs.length ∧ hs.length ≤ 1000 ∧
  ∀ p H', Same H H' → SqT K H' p ((after hs i).map V.int) → Q (.ref p) H'
theorem ok_after {f : Addr} {fd : FuncData} {k : Nat} (F : Fun K "heights_after" "heights_after" sAfter f fd) : FnOk P w K mg base CX0 (k + 1) f fd ["ring", "place"] (spAfter K) := by
  refine F.ok scAfter (fun vs H Q E h => ?_) (fun cdv A outer s H vs Q E hr h => ?_)
  · obtain ⟨a, hs, i, rfl, _⟩ := h
    rfl
  · obtain ⟨a, hs, i, rfl, hS, hi, hl, q⟩ := h
    refine ⟨_, pss_one (ps_ret (pe_op op_catW (pe_slice sl_tupW (pv 0) (po_some (pe_op op_add (pv 1) pe_int)) po_none) (pe_slice sl_tupW (pv 0) po_none (po_some (pv 1))))), ?_⟩
    refine ⟨.ref a, rfl, .int (i : Int), rfl, _, _, rfl, rfl, _, rfl, a, _, rfl, hS, fun p1 H1 s1 e1 => ?_⟩
    rw [show cutV (hs.map V.int) (some ((i : Int) + 1)) none = (hs.drop (i + 1)).map V.int by
      rw [List.map_drop]
      exact cut_from _ (i + 1)] at e1
    refine ⟨.ref a, rfl, .int (i : Int), rfl, _, rfl, a, _, rfl, Same.tupq s1 hS, fun p2 H2 s2 e2 => ?_⟩
    rw [show cutV (hs.map V.int) none (some (i : Int)) = (hs.take i).map V.int by
      rw [List.map_take]
      exact cut_to _ i] at e2
    refine ⟨p1, p2, _, _, rfl, rfl, Same.tupq s2 e1, e2, ?_, fun p H' s3 e3 => ?_⟩
    · rw [List.length_map, List.length_map, List.length_drop, List.length_take]
      exact Nat.le_of_lt (small1000 (by omega))
    · rw [← List.map_append] at e3
      exact q p H' ((s1.trans s2).trans s3) e3
def spNext (K : PySem.W.Frag) : Sp := fun vs H Q _ => ∃ (a : Addr) (hs : List Int) (i : Nat), vs = [.ref a, .int (i : Int)] ∧ SqT K H a (hs.map V.int) ∧ i < hs.length ∧ hs.length ≤ 1000 ∧
  ∀ H', Same H H' → Q (.int (nextOther hs i)) H'
theorem ok_next {f fA : Addr} {fd fdA : FuncData} {k : Nat} (F : Fun K "next_other_height" "next_other_height" sNext f fd)
    (FA : Fun K "heights_after" "heights_after" sAfter fA fdA) (bA : Binds K fdA ["ring", "place"] []) (gA : mg "heights_after" = some (.ref fA)) :
    FnOk P w K mg base CX0 (k + 2) f fd ["ring", "place"] (spNext K) := by
  have GA : FnOk P w K mg base CX0 (k + 1) fA fdA ["ring", "place"] (spAfter K) := ok_after FA
  refine F.ok scNext (fun vs H Q E h => ?_) (fun cdv A outer s H vs Q E hr h => ?_)
  · obtain ⟨a, hs, i, rfl, _⟩ := h
    rfl
  · obtain ⟨a, hs, i, rfl, hS, hi, hl, q⟩ := h
    refine ⟨_, pss_cons (ps_for PassesOwn.never rfl (pi_tup (pe_call GA hr (by rfl) gA FA.kp bA .nil pass0 (pa_cons (pv 0) (pa_cons (pv 1) pa_nil)))) (pg_name (i := 2) scNext.nd rfl (.inl rfl))
        (pss_one (ps_if (pt_cmpR op_ne (pv 2) (pe_ix ix_tup (pv 0) (pv 1) (fun _ _ => rfl)) (nomark _)) (pss_one (ps_ret (pv 2))) pss_nil)))
      (pss_one (ps_ret (pe_ix ix_tup (pv 0) (pv 1) (fun _ _ => rfl)))), ?_⟩
    obtain ⟨h0, g0⟩ : ∃ h0, hs[i]? = some h0 := ⟨hs[i], List.getElem?_eq_getElem hi⟩
    have d0 : hs.getD i 0 = h0 := by
      rw [List.getD_eq_getElem?_getD, g0]
      rfl
    refine ⟨.ref a, rfl, .int (i : Int), rfl, a, hs, i, rfl, hS, hi, hl, fun p H1 s1 e1 => ?_⟩
    refine ⟨p, rfl, ⟨_, e1⟩, ?_⟩
    refine for_tup (K := K) (a := p) (xs := (after hs i).map V.int) (fun j σ H2 => ∃ y : Option V, σ = [some (.ref a), some (.int (i : Int)), y] ∧ H2 = H1 ∧ ∀ (j' : Nat) (x : Int), j' < j → (after hs i)[j']? = some x → x = h0) ?_ ?_ ?_ ?_
    · exact ⟨none, rfl, rfl, fun j' _ h => absurd h (Nat.not_lt_zero _)⟩
    · rintro j σ H2 _ ⟨_, _, rfl, _⟩
      exact e1
    · rintro j x σ H2 hx ⟨y, rfl, rfl, hall⟩
      obtain ⟨c, hc, rfl⟩ := get_map_int hx
      refine ⟨.int c, rfl, .ref a, rfl, .int (i : Int), rfl, a, _, _, .int h0, rfl, rfl, Same.tupq s1 hS, atI_of rfl g0, rfl, _, rfl, ite2 (fun e => ?_) (fun e => ?_)⟩
      · have hne : c ≠ h0 := by
          rintro rfl
          rw [decide_eq_true rfl] at e
          cases e
        have hf : otherOf hs i = some c := by
          unfold otherOf
          refine find_some (j := j) ?_ hc (by rw [d0]; exact decide_eq_true hne)
          intro j' x hj hx
          rw [d0, hall j' x hj hx]
          exact decide_eq_false (fun z => z rfl)
        have hn : nextOther hs i = c := by
          unfold nextOther
          rw [hf]
          rfl
        refine ⟨.int c, rfl, ?_⟩
        rw [← hn]
        exact q _ s1
      · refine ⟨some (.int c), rfl, rfl, ?_⟩
        intro j' x hj hz
        by_cases hjj : j' < j
        · exact hall j' x hjj hz
        · have : j' = j := by omega
          subst this
          rw [hc] at hz
          cases hz
          refine Classical.byContradiction fun hne => e ?_
          rw [decide_eq_false (fun z => hne (V.int.inj z))]
          rfl
    · rintro σ H2 ⟨y, rfl, rfl, hall⟩
      have hf : otherOf hs i = none := by
        unfold otherOf
        refine find_none ?_
        intro j' x hx
        have hj : j' < ((after hs i).map V.int).length := by
          rw [List.length_map]
          exact (List.getElem?_eq_some_iff.mp hx).1
        rw [d0, hall j' x hj hx]
        exact decide_eq_false (fun z => z rfl)
      have hn : nextOther hs i = h0 := by
        unfold nextOther
        rw [hf, d0]
        rfl
      refine ⟨.ref a, rfl, .int (i : Int), rfl, a, _, _, .int h0, rfl, rfl, Same.tupq s1 hS, atI_of rfl g0, ?_⟩
      rw [← hn]
      exact q _ s1
def spIsTurn (K : PySem.W.Frag) : Sp := fun vs H Q _ => ∃ (a : Addr) (hs : List Int) (i : Nat), vs = [.ref a, .int (i : Int)] ∧ SqT K H a (hs.map V.int) ∧ i < hs.length ∧ hs.length ≤ 1000 ∧
  ∀ H', Same H H' → Q (.bl (isTurn hs i)) H'
theorem ok_isTurn {f fN fA : Addr} {fd fdN fdA : FuncData} {k : Nat} (F : Fun K "is_turn" "is_turn" sIsTurn f fd)
    (FN : Fun K "next_other_height" "next_other_height" sNext fN fdN) (bN : Binds K fdN ["ring", "place"] []) (gN : mg "next_other_height" = some (.ref fN))
    (FA : Fun K "heights_after" "heights_after" sAfter fA fdA) (bA : Binds K fdA ["ring", "place"] []) (gA : mg "heights_after" = some (.ref fA)) :
    FnOk P w K mg base CX0 (k + 3) f fd ["ring", "place"] (spIsTurn K) := by
  have GN : FnOk P w K mg base CX0 (k + 2) fN fdN ["ring", "place"] (spNext K) := ok_next FN FA bA gA
  refine F.ok scIsTurn (fun vs H Q E h => ?_) (fun cdv A outer s H vs Q E hr h => ?_)
  · obtain ⟨a, hs, i, rfl, _⟩ := h
    rfl
  · obtain ⟨a, hs, i, rfl, hS, hi, hl, q⟩ := h
    refine ⟨_, pss_cons (ps_set (i := 2) scIsTurn.nd rfl (.inl rfl) (pe_ix ix_tup (pv 0) (pv 1) (fun _ _ => rfl)))
      (pss_cons (ps_set (i := 3) scIsTurn.nd rfl (.inl rfl) (pe_ix ix_tup (pv 0) (pe_op op_sub (pv 1) pe_int) (fun _ _ => rfl)))
      (pss_cons (ps_if (pt_cmpR op_eq (pv 3) (pv 2) (nomark _)) (pss_one (ps_ret pe_bl)) pss_nil)
      (pss_one (ps_ret (pe_cmpR op_eq (pe_cmpR op_lt (pv 3) (pv 2) (nomark _)) (pe_cmpR op_lt (pe_call GN hr (by rfl) gN FN.kp bN .nil pass0 (pa_cons (pv 0) (pa_cons (pv 1) pa_nil))) (pv 2) (nomark _)) (nomark _)))))), ?_⟩
    obtain ⟨h0, g0⟩ : ∃ h0, hs[i]? = some h0 := ⟨hs[i], List.getElem?_eq_getElem hi⟩
    have d0 : hs.getD i 0 = h0 := by
      rw [List.getD_eq_getElem?_getD, g0]
      rfl
    refine ⟨.ref a, rfl, .int (i : Int), rfl, a, _, _, .int h0, rfl, rfl, hS, atI_of rfl g0, ?_⟩
    refine ⟨.ref a, rfl, .int (i : Int), rfl, _, _, rfl, rfl, a, _, _, _, rfl, rfl, hS, atI_back hi, ?_⟩
    refine ⟨_, rfl, _, rfl, rfl, _, rfl, ite2 (fun e => ?_) (fun e => ?_)⟩
    · have hv : isTurn hs i = false := by
        unfold isTurn
        rw [d0, if_pos (V.int.inj (of_decide_eq_true e))]
      rw [← hv]
      exact q _ (Same.refl _)
    · refine ⟨_, rfl, _, rfl, _, _, rfl, rfl, .ref a, rfl, .int (i : Int), rfl, a, hs, i, rfl, hS, hi, hl, fun H1 s1 => ?_⟩
      refine ⟨_, rfl, _, _, rfl, rfl, rfl, ?_⟩
      have hv : isTurn hs i = decide (V.bl (decide (prevOf hs i < h0)) = V.bl (decide (nextOther hs i < h0))) := by
        unfold isTurn
        rw [d0, if_neg (fun z => e (decide_eq_true (congrArg V.int z)))]
        by_cases hz : decide (prevOf hs i < h0) = decide (nextOther hs i < h0)
        · rw [decide_eq_true hz, decide_eq_true (congrArg V.bl hz)]
        · rw [decide_eq_false hz, decide_eq_false (fun z => hz (V.bl.inj z))]
      rw [← hv]
      exact q _ s1
def spTurns (K : PySem.W.Frag) : Sp := fun vs H Q _ => ∃ (a : Addr) (hs : List Int), vs = [.ref a] ∧ SqT K H a (hs.map V.int) ∧ hs.length ≤ 1000 ∧
  ∀ p H', Same H H' → H p = none → H' p = some (.tup ((natInts (turnsOf hs)).map V.int)) → Q (.ref p) H'
theorem ok_turns {f fT fN fA : Addr} {fd fdT fdN fdA : FuncData} {k : Nat} (F : Fun K "turning_places" "turning_places" sTurns f fd)
    (FT : Fun K "is_turn" "is_turn" sIsTurn fT fdT) (bT : Binds K fdT ["ring", "place"] []) (gT : mg "is_turn" = some (.ref fT))
    (FN : Fun K "next_other_height" "next_other_height" sNext fN fdN) (bN : Binds K fdN ["ring", "place"] []) (gN : mg "next_other_height" = some (.ref fN))
    (FA : Fun K "heights_after" "heights_after" sAfter fA fdA) (bA : Binds K fdA ["ring", "place"] []) (gA : mg "heights_after" = some (.ref fA))
    (ml : mg "len" = none) (mr : mg "range" = none) (mt : mg "tuple" = none) :
    FnOk P w K mg base CX0 (k + 4) f fd ["ring"] (spTurns K) := by
  have GT : FnOk P w K mg base CX0 (k + 3) fT fdT ["ring", "place"] (spIsTurn K) := ok_isTurn FT FN bN gN FA bA gA
  refine F.ok scTurns (fun vs H Q E h => ?_) (fun cdv A outer s H vs Q E hr h => ?_)
  · obtain ⟨a, hs, rfl, _⟩ := h
    rfl
  · obtain ⟨a, hs, rfl, hS, hl, q⟩ := h
    refine ⟨_, pss_one (ps_ret (pe_callTy call_tuple_of (by rfl) mt (by decide +kernel) (pa_cons (pe_lc (own := [("place", 1)]) (g := gName 1) (by rfl) scTurns.nd
        (pi_range1 (by rfl) mr (pa_cons (pe_callB call_len_seq (by rfl) ml PySem.boot_len (pa_cons (pv 0) pa_nil)) pa_nil))
        (blkOk_by (own := [("place", 1)]) (N := nTurns) (sc := defScope sTurns) (by decide +kernel))
        (fun _ _ _ _ _ => pg_name (i := 1) scTurns.nd rfl (Or.inl rfl))
        (fun _ _ _ _ _ => pts_one (pt_val (pe_call GT hr (by rfl) gT FT.kp bT .nil pass0 (pa_cons (pv 0) (pa_cons (pv 1) pa_nil)))))
        (fun _ _ _ _ _ => pv 1)) pa_nil))), ?_⟩
    refine ⟨.ref a, rfl, a, _, rfl, .inr hS, _, rfl, ?_, ?_, fun D nD => ?_⟩
    · rw [List.length_map]
      omega
    · rw [List.length_map]
      omega
    have el : (((hs.map V.int).length : Nat) : Int).toNat = hs.length := by
      rw [List.length_map]
      omega
    rw [el]
    refine lc_range (lo := 0) (n := hs.length) (fun j H2 => Same H H2 ∧ H2 D = some (.lst ((natInts (((List.range hs.length).take j).filter (isTurn hs))).map V.int))) ?_ ?_ ?_
    · exact ⟨same_upd nD, upd_same⟩
    · rintro j H2 hj ⟨s2, e2⟩
      have ej : (0 : Int) + (j : Int) = (j : Int) := Int.zero_add _
      rw [ej]
      refine ⟨rfl, .ref a, rfl, .int (j : Int), rfl, a, hs, j, rfl, Same.tupq s2 hS, hj, hl, fun H3 s3 => ?_⟩
      refine ⟨_, rfl, ?_⟩
      have fs := filter_take_succ (p := isTurn hs) hj
      cases ht : isTurn hs j with
      | true =>
        rw [ht, if_pos rfl] at fs
        refine ⟨.int (j : Int), rfl, _, s3 _ _ e2, ?_, ?_, ?_⟩
        · rw [List.length_map]
          unfold natInts
          rw [List.length_map]
          refine small1000 (Nat.le_trans (List.length_filter_le _ _) ?_)
          rw [List.length_take, List.length_range]
          omega
        · intro b o e
          rw [upd_ne (ne_of_none e nD)]
          exact s3 _ _ (s2 _ _ e)
        · rw [upd_same, fs, natInts_app, List.map_append]
          rfl
      | false =>
        rw [ht, if_neg Bool.false_ne_true, List.append_nil] at fs
        refine ⟨s2.trans s3, ?_⟩
        rw [fs]
        exact s3 _ _ e2
    · rintro H2 ⟨s2, e2⟩
      rw [List.take_of_length_le (by rw [List.length_range]; exact Nat.le_refl _)] at e2
      refine ⟨D, _, rfl, .inl ⟨SqL.of e2, fun p np => ?_⟩⟩
      exact q p _ (s2.trans (same_upd np)) (s2.free np) upd_same
end
/-! ### find_removal -/
abbrev sFindRem : Stmt := topS 10
abbrev sFlat : Stmt := topS 11
abbrev sVal : Stmt := topS 12
abbrev sWo : Stmt := topS 13
abbrev nFindRem : List Str := ["ring", "left", "pairs", "pair"]
abbrev nFlat : List Str := ["ring", "left", "ranges", "at", "index", "turn"]
abbrev nVal : List Str := ["ring", "turn", "neighbour"]
abbrev nWo : List Str := ["left", "pair", "turn"]
theorem scFindRem : FnScope nFindRem ["ring"] (defScope sFindRem) := ⟨rfl, rfl, rfl, by decide +kernel, rfl, by decide +kernel, by decide +kernel⟩
theorem scFlat : FnScope nFlat ["ring", "left"] (defScope sFlat) := ⟨rfl, rfl, rfl, by decide +kernel, rfl, by decide +kernel, by decide +kernel⟩
theorem scVal : FnScope nVal ["ring", "turn", "neighbour"] (defScope sVal) := ⟨rfl, rfl, rfl, by decide +kernel, rfl, by decide +kernel, by decide +kernel⟩
theorem scWo : FnScope nWo ["left", "pair"] (defScope sWo) := ⟨rfl, rfl, rfl, by decide +kernel, rfl, by decide +kernel, by decide +kernel⟩
section
variable {P : Program} {w : World} {K : PySem.W.Frag} {mg : Str → Option Value} {base : Heap}
def spVal (K : PySem.W.Frag) : Sp := fun vs H Q _ => ∃ (a : Addr) (hs : List Int) (x y : Nat), vs = [.ref a, .int (x : Int), .int (y : Int)] ∧ SqT K H a (hs.map V.int) ∧ x < hs.length ∧ y < hs.length ∧
  ∀ p, H p = none → Q (.ref p) (upd H p (.tup [.int ((valFirst hs x y).1 : Int), .int ((valFirst hs x y).2 : Int)]))
theorem ok_val {f : Addr} {fd : FuncData} {k : Nat} (F : Fun K "valley_first" "valley_first" sVal f fd) : FnOk P w K mg base CX0 (k + 1) f fd ["ring", "turn", "neighbour"] (spVal K) := by
  refine F.ok scVal (fun vs H Q E h => ?_) (fun cdv A outer s H vs Q E hr h => ?_)
  · obtain ⟨a, hs, x, y, rfl, _⟩ := h
    rfl
  · obtain ⟨a, hs, x, y, rfl, hS, hx, hy, q⟩ := h
    refine ⟨_, pss_one (ps_ret (pe_ifExp (pt_cmpR op_lt (pe_ix ix_tup (pv 0) (pv 1) (fun _ _ => rfl)) (pe_ix ix_tup (pv 0) (pv 2) (fun _ _ => rfl)) (nomark _))
      (pe_tup (pa_cons (pv 1) (pa_cons (pv 2) pa_nil))) (pe_tup (pa_cons (pv 2) (pa_cons (pv 1) pa_nil))))), ?_⟩
    refine ⟨.ref a, rfl, _, rfl, a, _, _, _, rfl, rfl, hS, at_hgt hx, .ref a, rfl, _, rfl, a, _, _, _, rfl, rfl, hS, at_hgt hy, _, _, rfl, rfl, _, rfl, ite2 (fun e => ?_) (fun e => ?_)⟩
    · refine ⟨_, rfl, _, rfl, by show 2 ≤ sizeLine; decide, fun p np => ?_⟩
      have := q p np
      unfold valFirst at this
      rw [if_pos (of_decide_eq_true e)] at this
      exact this
    · refine ⟨_, rfl, _, rfl, by show 2 ≤ sizeLine; decide, fun p np => ?_⟩
      have := q p np
      unfold valFirst at this
      rw [if_neg (fun z => e (decide_eq_true z))] at this
      exact this
def spFlat (K : PySem.W.Frag) : Sp := fun vs H Q _ => ∃ (a b : Addr) (hs : List Int) (left : List Nat), vs = [.ref a, .ref b] ∧ SqT K H a (hs.map V.int) ∧ SqT K H b ((natInts left).map V.int) ∧
  left ≠ [] ∧ left.length ≤ 1000 ∧ (∀ t ∈ left, t < hs.length) ∧
  ∀ p H', Same H H' → H p = none → H' p = some (.tup [.int ((stepPair hs left).1 : Int), .int ((stepPair hs left).2 : Int)]) → Q (.ref p) H'
theorem ok_flat {f fV : Addr} {fd fdV : FuncData} {k : Nat} (F : Fun K "flattest_pair" "flattest_pair" sFlat f fd)
    (FV : Fun K "valley_first" "valley_first" sVal fV fdV) (bV : Binds K fdV ["ring", "turn", "neighbour"] []) (gV : mg "valley_first" = some (.ref fV))
    (ma : mg "abs" = none) (me : mg "enumerate" = none) (mn : mg "min" = none) :
    FnOk P w K mg base CX0 (k + 2) f fd ["ring", "left"] (spFlat K) := by
  have GV : FnOk P w K mg base CX0 (k + 1) fV fdV ["ring", "turn", "neighbour"] (spVal K) := ok_val FV
  refine F.ok scFlat (fun vs H Q E h => ?_) (fun cdv A outer s H vs Q E hr h => ?_)
  · obtain ⟨a, b, hs, left, rfl, _⟩ := h
    rfl
  · obtain ⟨a, b, hs, left, rfl, hS, hL, hne, hll, hlt, q⟩ := h
    refine ⟨_, pss_cons (ps_setLc (i := 2) (own := [("index", 4), ("turn", 5)]) (g := gTup K 2 (gCons (gName 4) (gCons (gName 5) gNil))) (tt := tYes) (by rfl) scFlat.nd rfl rfl (sw_true rfl rfl rfl (by decide +kernel))
        (pi_enumT (by rfl) me (pa_cons (pv 1) pa_nil))
        (blkOk_by (own := [("index", 4), ("turn", 5)]) (N := nFlat) (sc := defScope sFlat) (by decide +kernel))
        (fun _ _ _ _ _ => pg_tup rfl (pgs_cons (pg_name (i := 4) scFlat.nd rfl (Or.inl rfl)) (pgs_cons (pg_name (i := 5) scFlat.nd rfl (Or.inl rfl)) pgs_nil)))
        (fun _ _ _ _ _ => pts_nil)
        (fun _ _ _ _ _ => pe_callB call_abs (by rfl) ma boot_abs (pa_cons (pe_op op_sub (pe_ix (ixT K) (pv 0) (pv 5) (fun _ _ => rfl)) (pe_ix (ixT K) (pv 0) (pe_ix (ixT K) (pv 1) (pe_op op_sub (pv 4) pe_int) (fun _ _ => rfl)) (fun _ _ => rfl))) pa_nil)))
      (pss_cons (ps_set (i := 3) scFlat.nd rfl (.inl rfl) (pe_bm PySem.F.plainAttrs_list PySem.F.slot_list_index PySem.F.type_list_index mt_index (pv 2) (pa_cons (pe_callB (cr_min rfl) (by rfl) mn (by decide +kernel) (pa_cons (pv 2) pa_nil)) pa_nil)))
      (pss_one (ps_ret (pe_call GV hr (by rfl) gV FV.kp bV .nil pass0 (pa_cons (pv 0) (pa_cons (pe_ix ix_tup (pv 1) (pe_op op_sub (pv 3) pe_int) (fun _ _ => rfl)) (pa_cons (pe_ix ix_tup (pv 1) (pv 3) (fun _ _ => rfl)) pa_nil))))))), ?_⟩
    refine ⟨.ref b, rfl, b, _, rfl, hL, fun D nD => ?_⟩
    have hlen : ((natInts left).map V.int).length = left.length := by rw [List.length_map, natInts_len]
    refine lc_it (walk_enumT (K := K) (a := b) (xs := (natInts left).map V.int))
      (fun i H2 => Same H H2 ∧ H2 D = some (.lst (((rangesOf hs left).take i).map V.int))) ?_ ?_ ?_ ?_
    · exact ⟨same_upd nD, upd_same⟩
    · intro i H2 _ h
      exact Same.tupq h.1 hL
    · intro i v H2 H3 hi h hy
      obtain ⟨s2, eD⟩ := h
      obtain ⟨T, x, rfl, nT, rfl, hx⟩ := hy
      have hil : i < left.length := by omega
      obtain ⟨t, gt⟩ : ∃ t, left[i]? = some t := ⟨_, List.getElem?_eq_getElem hil⟩
      have hx2 := map_get (natInts_get gt)
      rw [hx2] at hx
      cases hx
      have sT : Same H2 (upd H2 T (.tup [.int (i : Nat), .int (t : Int)])) := same_upd nT
      have ltt : t < hs.length := hlt t (List.mem_of_getElem? gt)
      have ltp : left.getD (pre_ left.length i) 0 < hs.length := hlt _ (getD_mem (pre_lt hil))
      refine ⟨T, _, rfl, .inl (.inl upd_same), rfl, _, _, rfl, _, _, rfl, rfl, rfl, ?_⟩
      have hA := Same.tupq (s2.trans sT) hS
      have hB := Same.tupq (s2.trans sT) hL
      refine ⟨.ref a, rfl, .int (t : Int), rfl, a, _, _, _, rfl, rfl, hA, at_hgt ltt, .ref a, rfl, .ref b, rfl, .int (i : Nat), rfl, _, _, rfl, rfl, b, _, _, _, rfl, rfl, hB, atI_back (ns := natInts left) (by rw [natInts_len]; exact hil), a, _, _, .int (hgt hs (left.getD (pre_ left.length i) 0)), rfl, rfl, hA, (by rw [natInts_prev hil]; exact at_hgt ltp), _, _, rfl, rfl, _, rfl, _, sT _ _ eD, ?_, ?_, ?_⟩
      · rw [List.length_map, List.length_take]
        exact small1000 (by omega)
      · intro c o e
        rw [upd_ne (ne_of_none e nD)]
        exact (s2.trans sT) c o e
      · rw [upd_same]
        exact congrArg (fun z => some (HO.lst z)) (take_succ_map (ranges_get gt))
    · intro H2 h
      obtain ⟨s2, eD⟩ := h
      rw [hlen, List.take_of_length_le (Nat.le_of_eq (ranges_len hs left))] at eD
      have hne2 : rangesOf hs left ≠ [] := by
        intro z
        have := ranges_len hs left
        rw [z] at this
        exact hne (List.eq_nil_of_length_eq_zero this.symm)
      obtain ⟨m0, g0, l0⟩ := firstMin_spec hne2
      refine ⟨.ref D, rfl, .inl ⟨rfl, _, SqL.of eD⟩, .ref D, rfl, D, rangesOf hs left, rfl, SqL.of eD, ?_, fun m hm hle => ?_⟩
      · exact List.length_pos_iff.mpr hne2
      have em : m0 = m := by
        have a1 := l0 m hm
        have a2 := hle m0 (List.mem_of_getElem? g0)
        omega
      subst em
      have hat : atOf hs left < left.length := by
        have := (List.getElem?_eq_some_iff.mp g0).1
        rwa [ranges_len] at this
      refine ⟨D, _, .int m0, atOf hs left, .int m0, rfl, rfl, SqL.of eD, rfl, flat_ints _, map_get g0, beq_self_eq_true _, ?_, ?_⟩
      · intro j z' hj hz
        obtain ⟨c, hc, rfl⟩ := get_map_int hz
        have hn := firstMin_lt hj hc
        refine beq_eq_false_iff_ne.mpr ?_
        rintro rfl
        exact hn l0
      · have gat : left[atOf hs left]? = some (left.getD (atOf hs left) 0) := by
          rw [List.getD_eq_getElem?_getD, List.getElem?_eq_getElem hat]
          rfl
        refine ⟨.ref a, rfl, .ref b, rfl, _, rfl, _, _, rfl, rfl, b, _, _, .int ((left.getD (pre_ left.length (atOf hs left)) 0 : Nat) : Int), rfl, rfl, Same.tupq s2 hL, ?_, .ref b, rfl, _, rfl, b, _, _, .int ((left.getD (atOf hs left) 0 : Nat) : Int), rfl, rfl, Same.tupq s2 hL, atI_nat (map_get (natInts_get gat)), ?_⟩
        · rw [← natInts_prev hat]
          exact atI_back (ns := natInts left) (by rw [natInts_len]; exact hat)
        · refine ⟨a, hs, _, _, rfl, Same.tupq s2 hS, hlt _ (getD_mem (pre_lt hat)), hlt _ (getD_mem hat), fun p np => ?_⟩
          exact q p _ (s2.trans (same_upd np)) (s2.free np) upd_same
def spWo (K : PySem.W.Frag) : Sp := fun vs H Q _ => ∃ (a b : Addr) (left : List Nat) (pr : Nat × Nat), vs = [.ref a, .ref b] ∧ SqT K H a ((natInts left).map V.int) ∧ SqT K H b [.int (pr.1 : Int), .int (pr.2 : Int)] ∧
  left.length ≤ 1000 ∧ ∀ p H', Same H H' → H p = none → H' p = some (.tup ((natInts (without left pr)).map V.int)) → Q (.ref p) H'
theorem ok_wo {f : Addr} {fd : FuncData} {k : Nat} (F : Fun K "without_pair" "without_pair" sWo f fd) (mt : mg "tuple" = none) : FnOk P w K mg base CX0 (k + 1) f fd ["left", "pair"] (spWo K) := by
  refine F.ok scWo (fun vs H Q E h => ?_) (fun cdv A outer s H vs Q E hr h => ?_)
  · obtain ⟨a, b, left, pr, rfl, _⟩ := h
    rfl
  · obtain ⟨a, b, left, pr, rfl, hL, hB, hll, q⟩ := h
    refine ⟨_, pss_one (ps_ret (pe_callTy call_tuple_of (by rfl) mt (by decide +kernel) (pa_cons (pe_lc (own := [("turn", 2)]) (g := gName 2) (by rfl) scWo.nd (pi_tup (pv 0))
        (blkOk_by (own := [("turn", 2)]) (N := nWo) (sc := defScope sWo) (by decide +kernel))
        (fun _ _ _ _ _ => pg_name (i := 2) scWo.nd rfl (Or.inl rfl))
        (fun _ _ _ _ _ => pts_one (pt_cmpR (notInK K) (pv 2) (pv 1) (by rfl)))
        (fun _ _ _ _ _ => pv 2)) pa_nil))), ?_⟩
    refine ⟨.ref a, rfl, a, rfl, ⟨_, hL⟩, fun D nD => ?_⟩
    have hlen : ((natInts left).map V.int).length = left.length := by rw [List.length_map, natInts_len]
    refine lc_tup (K := K) (a := a) (xs := (natInts left).map V.int) (fun j H2 => Same H H2 ∧ H2 D = some (.lst ((natInts (without (left.take j) pr)).map V.int))) ?_ ?_ ?_ ?_
    · exact ⟨same_upd nD, upd_same⟩
    · intro i H2 _ h
      exact Same.tupq h.1 hL
    · rintro j x H2 hx ⟨s2, eD⟩
      have hj : j < left.length := by
        have := (List.getElem?_eq_some_iff.mp hx).1
        omega
      obtain ⟨t, gt⟩ : ∃ t, left[j]? = some t := ⟨_, List.getElem?_eq_getElem hj⟩
      rw [map_get (natInts_get gt)] at hx
      cases hx
      have wt := without_take (pr := pr) gt
      refine ⟨rfl, _, rfl, .ref b, rfl, b, _, rfl, .inr (Same.tupq s2 hB), rfl, rfl, _, rfl, ?_⟩
      rw [inV_pair]
      show if (!(decide (t = pr.1) || decide (t = pr.2))) = true then _ else _
      refine ite2 (fun e => ?_) (fun e => ?_)
      · rw [if_pos e] at wt
        refine ⟨_, rfl, _, eD, ?_, ?_, ?_⟩
        · rw [List.length_map, natInts_len]
          refine small1000 (Nat.le_trans (List.length_filter_le _ _) ?_)
          rw [List.length_take]
          omega
        · intro c o z
          rw [upd_ne (ne_of_none z nD)]
          exact s2 _ _ z
        · rw [upd_same, wt, natInts_app, List.map_append]
          rfl
      · rw [if_neg e, List.append_nil] at wt
        refine ⟨s2, ?_⟩
        rw [wt]
        exact eD
    · rintro H2 ⟨s2, eD⟩
      rw [hlen, List.take_length] at eD
      refine ⟨D, _, rfl, .inl ⟨SqL.of eD, fun p np => ?_⟩⟩
      exact q p _ (s2.trans (same_upd np)) (s2.free np) upd_same
def spFindRem (K : PySem.W.Frag) : Sp := fun vs H Q _ => ∃ (a : Addr) (hs : List Int), vs = [.ref a] ∧ SqT K H a (hs.map V.int) ∧ hs.length ≤ 1000 ∧
  ∀ p H' ps, Same H H' → H p = none → H' p = some (.tup (ps.map V.ref)) → Tups K H' ps (pairInts (removal hs)) → Q (.ref p) H'
theorem ok_findRem {f fF fV fW fT fI fN fA : Addr} {fd fdF fdV fdW fdT fdI fdN fdA : FuncData} {k : Nat} (F : Fun K "find_removal" "find_removal" sFindRem f fd)
    (FF : Fun K "flattest_pair" "flattest_pair" sFlat fF fdF) (bF : Binds K fdF ["ring", "left"] []) (gF : mg "flattest_pair" = some (.ref fF))
    (FV : Fun K "valley_first" "valley_first" sVal fV fdV) (bV : Binds K fdV ["ring", "turn", "neighbour"] []) (gV : mg "valley_first" = some (.ref fV))
    (FW : Fun K "without_pair" "without_pair" sWo fW fdW) (bW : Binds K fdW ["left", "pair"] []) (gW : mg "without_pair" = some (.ref fW))
    (FT : Fun K "turning_places" "turning_places" sTurns fT fdT) (bT : Binds K fdT ["ring"] []) (gT : mg "turning_places" = some (.ref fT))
    (FI : Fun K "is_turn" "is_turn" sIsTurn fI fdI) (bI : Binds K fdI ["ring", "place"] []) (gI : mg "is_turn" = some (.ref fI))
    (FN : Fun K "next_other_height" "next_other_height" sNext fN fdN) (bN : Binds K fdN ["ring", "place"] []) (gN : mg "next_other_height" = some (.ref fN))
    (FA : Fun K "heights_after" "heights_after" sAfter fA fdA) (bA : Binds K fdA ["ring", "place"] []) (gA : mg "heights_after" = some (.ref fA))
    (ml : mg "len" = none) (mr : mg "range" = none) (mt : mg "tuple" = none) (ma : mg "abs" = none) (me : mg "enumerate" = none) (mn : mg "min" = none) :
    FnOk P w K mg base CX0 (k + 5) f fd ["ring"] (spFindRem K) := by
  have GT : FnOk P w K mg base CX0 (k + 4) fT fdT ["ring"] (spTurns K) := ok_turns FT FI bI gI FN bN gN FA bA gA ml mr mt
  have GF : FnOk P w K mg base CX0 (k + 4) fF fdF ["ring", "left"] (spFlat K) := (ok_flat (k := k + 2) FF FV bV gV ma me mn)
  have GW : FnOk P w K mg base CX0 (k + 4) fW fdW ["left", "pair"] (spWo K) := (ok_wo (k := k + 3) FW mt)
  refine F.ok scFindRem (fun vs H Q E h => ?_) (fun cdv A outer s H vs Q E hr h => ?_)
  · obtain ⟨a, hs, rfl, _⟩ := h
    rfl
  · obtain ⟨a, hs, rfl, hS, hl, q⟩ := h
    refine ⟨_, pss_cons (ps_set (i := 1) scFindRem.nd rfl (.inl rfl) (pe_call GT hr (by rfl) gT FT.kp bT .nil pass0 (pa_cons (pv 0) pa_nil)))
      (pss_cons (ps_set (i := 2) scFindRem.nd rfl (.inl rfl) (pe_lst pa_nil))
      (pss_cons (ps_while PassesOwn.never (pt_truth (pv 1) (by intro _; rfl))
        (pss_cons (ps_set (i := 3) scFindRem.nd rfl (.inl rfl) (pe_call GF hr (by rfl) gF FF.kp bF .nil pass0 (pa_cons (pv 0) (pa_cons (pv 1) pa_nil))))
        (pss_cons (ps_expr (pe_bm PySem.F.plainAttrs_list PySem.F.slot_list_append PySem.F.type_list_append mt_append (pv 2) (pa_cons (pv 3) pa_nil)))
        (pss_one (ps_set (i := 1) scFindRem.nd rfl (.inl rfl) (pe_call GW hr (by rfl) gW FW.kp bW .nil pass0 (pa_cons (pv 1) (pa_cons (pv 3) pa_nil))))))))
      (pss_one (ps_ret (pe_callTy call_tuple_of (by rfl) mt (by decide +kernel) (pa_cons (pv 2) pa_nil)))))), ?_⟩
    refine ⟨.ref a, rfl, a, hs, rfl, hS, hl, fun p0 H1 s1 n1 e1 => ?_⟩
    refine ⟨Nat.zero_le _, fun L nL => ?_⟩
    have fL : H L = none := s1.free nL
    have tl := turns_len hs
    refine ⟨fun m σ H2 => ∃ (y3 : Option V) (pl : Addr) (left : List Nat) (ps : List Addr) (dn : List (Nat × Nat)), σ = [some (.ref a), some (.ref pl), some (.ref L), y3] ∧ Same H H2 ∧
      H2 L = some (.lst (ps.map V.ref)) ∧ Tups K H2 ps (pairInts dn) ∧ SqT K H2 pl ((natInts left).map V.int) ∧ left.length ≤ m ∧ m ≤ 1000 ∧ dn.length + m ≤ 1000 ∧
      dn ++ removalGo hs m left = removal hs ∧ Cl (R2 hs) left ∧ left.Nodup ∧ (∀ t ∈ left, t < hs.length),
      ⟨(turnsOf hs).length, none, p0, turnsOf hs, [], [], rfl, s1.trans (same_upd nL), upd_same, .nil, SqT.of (same_upd nL _ _ e1), Nat.le_refl _, by omega, (by show 0 + _ ≤ _; omega), rfl, turns_zig.1, turns_nodup hs, turns_lt⟩, ?_⟩
    rintro m σ H2 ⟨y3, pl, left, ps, dn, rfl, s2, eL, tp, hpl, hlm, hm, hdm, hrem, hcl, hnd, hlt⟩
    refine ⟨.ref pl, rfl, _, .inr (.inl ⟨_, hpl, rfl⟩), ?_⟩
    by_cases hne : left = []
    · subst hne
      refine iteF ?_
      rw [removalGo_nil, List.append_nil] at hrem
      rw [hrem] at tp
      refine ⟨.ref L, rfl, L, _, rfl, .inl ⟨SqL.of eL, fun p np => ?_⟩⟩
      exact q p _ ps (s2.trans (same_upd np)) (s2.free np) upd_same (tp.same (same_upd np))
    · have hb : (!((natInts left).map V.int).isEmpty) = true := by
        cases left with
        | nil => exact absurd rfl hne
        | cons x r => rfl
      rw [hb]
      refine iteT ?_
      obtain ⟨c1, c2, c3, c4, c5, c6, _⟩ := step_next hcl hnd hne
      have hr1 := removalGo_step (hs := hs) hne hlm
      have m1 : 1 ≤ m := by
        have : left.length ≠ 0 := fun z => hne (List.eq_nil_of_length_eq_zero z)
        omega
      refine ⟨fun σ' H' => ∃ (y3 : Option V) (pl : Addr) (ps : List Addr), σ' = [some (.ref a), some (.ref pl), some (.ref L), y3] ∧ Same H H' ∧
        H' L = some (.lst (ps.map V.ref)) ∧ Tups K H' ps (pairInts (dn ++ [stepPair hs left])) ∧ SqT K H' pl ((natInts (without left (stepPair hs left))).map V.int), ?_, ?_⟩
      · rintro σ' H' ⟨y3', pl', ps', rfl, s', eL', tp', hpl'⟩
        refine ⟨m - 1, by omega, y3', pl', _, ps', _, rfl, s', eL', tp', hpl', by omega, by omega, ?_, ?_, c1, c2, ?_⟩
        · rw [List.length_append]
          show dn.length + 1 + (m - 1) ≤ 1000
          omega
        · rw [List.append_assoc, ← hrem, hr1]
          rfl
        · intro t ht
          exact hlt t (List.mem_filter.mp ht).1
      · refine ⟨.ref a, rfl, .ref pl, rfl, a, pl, hs, left, rfl, Same.tupq s2 hS, hpl, hne, by omega, hlt, fun pp H3 s3 n3 e3 => ?_⟩
        have eL3 := s3 _ _ eL
        refine ⟨.ref L, rfl, .inl ⟨rfl, _, SqL.of eL3⟩, .ref pp, rfl, L, _, _, rfl, rfl, eL3, ?_, ?_⟩
        · rw [List.length_map, tp.1]
          unfold pairInts
          rw [List.length_map]
          exact small1000 (by omega)
        · -- the list grows; tuples stand
          have hx : ∀ (b : Addr) (xs : List V), SqT K H3 b xs → SqT K (upd H3 L (.lst (ps.map V.ref ++ [.ref pp]))) b xs := by
            intro b xs hb
            rcases hb with (hb | ⟨o, hb⟩) | hb
            · refine .inl (.inl ?_)
              rw [upd_ne]
              · exact hb
              · rintro rfl
                rw [eL3] at hb
                cases hb
            · refine .inl (.inr ⟨o, ?_⟩)
              rw [upd_ne]
              · exact hb
              · rintro rfl
                rw [eL3] at hb
                cases hb
            · exact .inr hb
          refine ⟨.ref pl, rfl, .ref pp, rfl, pl, pp, left, stepPair hs left, rfl, hx _ _ (Same.tupq s3 hpl), hx _ _ (SqT.of e3), by omega, fun pw H4 s4 n4 e4 => ?_⟩
          refine ⟨_, pw, ps ++ [pp], rfl, ?_, ?_, ?_, SqT.of e4⟩
          · intro b o z
            refine s4 _ _ ?_
            rw [upd_ne (ne_of_none z fL)]
            exact s3 _ _ (s2 _ _ z)
          · rw [List.map_append]
            exact s4 _ _ upd_same
          · unfold pairInts
            rw [List.map_append]
            refine (Tups.snoc ?_ ?_)
            · exact ⟨tp.1, fun i p ts h1 h2 => Same.tupq s4 (hx _ _ (Same.tupq s3 (tp.2 i p ts h1 h2)))⟩
            · exact Same.tupq s4 (hx _ _ (SqT.of e3))
end
end R16

set_option Elab.async false
set_option linter.all false
set_option maxRecDepth 100000
namespace R16
open PySem PySem.Spec PyProof.Rows L2 RS
/-! ### swings_of -/
abbrev sSw : Stmt := topS 9
abbrev nSw : List Str := ["ring", "valley", "peak"]
theorem scSw : FnScope nSw ["ring"] (defScope sSw) := ⟨rfl, rfl, rfl, by decide +kernel, rfl, by decide +kernel, by decide +kernel⟩
section
variable {P : Program} {w : World} {K : PySem.W.Frag} {mg : Str → Option Value} {base : Heap}
def spSw (K : PySem.W.Frag) : Sp := fun vs H Q _ => ∃ (a : Addr) (hs : List Int), vs = [.ref a] ∧ SqT K H a (hs.map V.int) ∧ hs.length ≤ 1000 ∧
  ∀ p H' ps, Same H H' → H p = none → H' p = some (.tup (ps.map V.ref)) → Pairs H' ps (swingsOf hs) → Q (.ref p) H'
theorem ok_sw {f fR fF fV fW fT fI fN fA : Addr} {fd fdR fdF fdV fdW fdT fdI fdN fdA : FuncData} {k : Nat} (F : Fun K "swings_of" "swings_of" sSw f fd)
    (FR : Fun K "find_removal" "find_removal" sFindRem fR fdR) (bR : Binds K fdR ["ring"] []) (gR : mg "find_removal" = some (.ref fR))
    (FF : Fun K "flattest_pair" "flattest_pair" sFlat fF fdF) (bF : Binds K fdF ["ring", "left"] []) (gF : mg "flattest_pair" = some (.ref fF))
    (FV : Fun K "valley_first" "valley_first" sVal fV fdV) (bV : Binds K fdV ["ring", "turn", "neighbour"] []) (gV : mg "valley_first" = some (.ref fV))
    (FW : Fun K "without_pair" "without_pair" sWo fW fdW) (bW : Binds K fdW ["left", "pair"] []) (gW : mg "without_pair" = some (.ref fW))
    (FT : Fun K "turning_places" "turning_places" sTurns fT fdT) (bT : Binds K fdT ["ring"] []) (gT : mg "turning_places" = some (.ref fT))
    (FI : Fun K "is_turn" "is_turn" sIsTurn fI fdI) (bI : Binds K fdI ["ring", "place"] []) (gI : mg "is_turn" = some (.ref fI))
    (FN : Fun K "next_other_height" "next_other_height" sNext fN fdN) (bN : Binds K fdN ["ring", "place"] []) (gN : mg "next_other_height" = some (.ref fN))
    (FA : Fun K "heights_after" "heights_after" sAfter fA fdA) (bA : Binds K fdA ["ring", "place"] []) (gA : mg "heights_after" = some (.ref fA))
    (ml : mg "len" = none) (mr : mg "range" = none) (mt : mg "tuple" = none) (ma : mg "abs" = none) (me : mg "enumerate" = none) (mn : mg "min" = none) (mso : mg "sorted" = none) :
    FnOk P w K mg base CX0 (k + 6) f fd ["ring"] (spSw K) := by
  have GR : FnOk P w K mg base CX0 (k + 5) fR fdR ["ring"] (spFindRem K) := ok_findRem FR FF bF gF FV bV gV FW bW gW FT bT gT FI bI gI FN bN gN FA bA gA ml mr mt ma me mn
  refine F.ok scSw (fun vs H Q E h => ?_) (fun cdv A outer s H vs Q E hr h => ?_)
  · obtain ⟨a, hs, rfl, _⟩ := h
    rfl
  · obtain ⟨a, hs, rfl, hS, hl, q⟩ := h
    refine ⟨_, pss_one (ps_ret (pe_callTy call_tuple_of (by rfl) mt (by decide +kernel) (pa_cons (pe_callB cr_sortedPO (by rfl) mso (by decide +kernel) (pa_cons
        (pe_lc (own := [("valley", 1), ("peak", 2)]) (g := gTup K 2 (gCons (gName 1) (gCons (gName 2) gNil))) (tt := tYes) (by rfl) scSw.nd
          (pi_tup (pe_call GR hr (by rfl) gR FR.kp bR .nil pass0 (pa_cons (pv 0) pa_nil)))
          (blkOk_by (own := [("valley", 1), ("peak", 2)]) (N := nSw) (sc := defScope sSw) (by decide +kernel))
          (fun _ _ _ _ _ => pg_tup rfl (pgs_cons (pg_name (i := 1) scSw.nd rfl (Or.inl rfl)) (pgs_cons (pg_name (i := 2) scSw.nd rfl (Or.inl rfl)) pgs_nil)))
          (fun _ _ _ _ _ => pts_nil)
          (fun _ _ _ _ _ => pe_tup (pa_cons (pe_ix (ixT K) (pv 0) (pv 1) (fun _ _ => rfl)) (pa_cons (pe_ix (ixT K) (pv 0) (pv 2) (fun _ _ => rfl)) pa_nil)))) pa_nil)) pa_nil))), ?_⟩
    refine ⟨.ref a, rfl, a, hs, rfl, hS, hl, fun pr H1 ps s1 n1 e1 tp => ?_⟩
    refine ⟨pr, rfl, ⟨_, SqT.of e1⟩, fun D nD => ?_⟩
    have rok := removal_ok hs
    have lps : ps.length = (removal hs).length := by
      rw [tp.1]
      exact List.length_map ..
    have lrem : (removal hs).length ≤ 1000 := by
      have := rok.len
      have := turns_len hs
      omega
    refine lc_tup (K := K) (a := pr) (xs := ps.map V.ref) (fun j H2 => Same H1 H2 ∧ ∃ qs : List Addr, H2 D = some (.lst (qs.map V.ref)) ∧ Pairs H2 qs ((swingsL hs).take j)) ?_ ?_ ?_ ?_
    · exact ⟨same_upd nD, [], upd_same, rfl, fun i q t h => by simp at h⟩
    · rintro j H2 _ ⟨s2, _⟩
      exact SqT.of (s2 _ _ e1)
    · rintro j x H2 hx ⟨s2, qs, eD, pq⟩
      obtain ⟨t, gt, rfl⟩ := get_map_ref hx
      have hj : j < (removal hs).length := by
        rw [← lps]
        exact (List.getElem?_eq_some_iff.mp gt).1
      obtain ⟨rp, grp⟩ : ∃ rp, (removal hs)[j]? = some rp := ⟨_, List.getElem?_eq_getElem hj⟩
      obtain ⟨m1, m2, _⟩ := rok.mem rp (List.mem_of_getElem? grp)
      have hT := (tp.same s2).2 j t [(rp.1 : Int), (rp.2 : Int)] gt (by unfold pairInts; rw [List.getElem?_map, grp]; rfl)
      have gsw : (swingsL hs)[j]? = some (hPair hs rp) := by
        unfold swingsL
        rw [List.getElem?_map, grp]
        rfl
      have hA := Same.tupq (s1.trans s2) hS
      refine ⟨t, _, rfl, hT, rfl, _, _, rfl, _, _, rfl, rfl, rfl, ?_⟩
      refine ⟨.ref a, rfl, _, rfl, a, _, _, _, rfl, rfl, hA, at_hgt (turns_lt _ m1), .ref a, rfl, _, rfl, a, _, _, _, rfl, rfl, hA, at_hgt (turns_lt _ m2), by show 2 ≤ sizeLine; decide, fun N nN => ?_⟩
      have sN : Same H2 (upd H2 N (.tup [.int (hgt hs rp.1), .int (hgt hs rp.2)])) := same_upd nN
      have lq : qs.length = j := by
        rw [pq.1, List.length_take]
        have : (swingsL hs).length = (removal hs).length := List.length_map ..
        omega
      refine ⟨_, sN _ _ eD, ?_, ?_, qs ++ [N], ?_, ?_⟩
      · rw [List.length_map, lq]
        exact small1000 (by omega)
      · intro b o z
        rw [upd_ne (ne_of_none z nD)]
        exact sN _ _ (s2 _ _ z)
      · rw [upd_same, List.map_append]
        rfl
      · refine ⟨by rw [List.length_append, lq, List.length_take]; show j + 1 = _; have : (swingsL hs).length = (removal hs).length := List.length_map ..; omega, ?_⟩
        intro i q0 sw hq hs'
        have nqD : ∀ b, (upd H2 N (.tup [.int (hgt hs rp.1), .int (hgt hs rp.2)])) b = some (.tup [.int sw.1, .int sw.2]) → b ≠ D := by
          rintro b hb rfl
          rw [sN _ _ eD] at hb
          cases hb
        have main : (upd H2 N (.tup [.int (hgt hs rp.1), .int (hgt hs rp.2)])) q0 = some (.tup [.int sw.1, .int sw.2]) := by
          by_cases hi : i < j
          · rw [List.getElem?_append_left (by omega)] at hq
            refine sN _ _ (pq.2 i q0 sw hq ?_)
            rw [List.getElem?_take_of_lt hi]
            rw [List.getElem?_take_of_lt (by omega)] at hs'
            exact hs'
          · rw [List.getElem?_append_right (by omega)] at hq
            have hij : i = j := by
              have := (List.getElem?_eq_some_iff.mp hq).1
              simp at this
              omega
            subst hij
            rw [lq, Nat.sub_self] at hq
            cases hq
            rw [List.getElem?_take_of_lt (by omega), gsw] at hs'
            cases hs'
            exact upd_same
        rw [upd_ne (nqD _ main)]
        exact main
    · rintro H2 ⟨s2, qs, eD, pq⟩
      rw [List.length_map, lps, List.take_of_length_le (by unfold swingsL; rw [List.length_map]; exact Nat.le_refl _)] at pq
      refine ⟨D, _, keyV H2, rfl, SqL.of eD, pq.mem, fun ys p5 srt stb n5 => ?_⟩
      obtain ⟨ps5, rfl, pp⟩ := pq.sorted srt stb.perm
      refine ⟨p5, _, rfl, .inl ⟨.inl (.inl upd_same), fun p6 n6 => ?_⟩⟩
      have s5 : Same H2 (upd H2 p5 (.lst (ps5.map V.ref))) := same_upd n5
      have sZ := (s1.trans s2).trans s5
      exact q p6 _ ps5 (sZ.trans (same_upd n6)) (sZ.free n6) upd_same (pp.same (s5.trans (same_upd n6)))
end
/-! ### passage_places -/
abbrev sPass : Stmt := topS 6
abbrev sBegins : Stmt := topS 7
abbrev nPass : List Str := ["ring", "low", "high", "place"]
abbrev nBegins : List Str := ["ring", "place", "low", "high", "height"]
theorem scPass : FnScope nPass ["ring", "low", "high"] (defScope sPass) := ⟨rfl, rfl, rfl, by decide +kernel, rfl, by decide +kernel, by decide +kernel⟩
theorem scBegins : FnScope nBegins ["ring", "place", "low", "high"] (defScope sBegins) := ⟨rfl, rfl, rfl, by decide +kernel, rfl, by decide +kernel, by decide +kernel⟩
section
variable {P : Program} {w : World} {K : PySem.W.Frag} {mg : Str → Option Value} {base : Heap}
def spBegins (K : PySem.W.Frag) : Sp := fun vs H Q _ => ∃ (a : Addr) (hs : List Int) (i : Nat) (lo hi : Int), vs = [.ref a, .int (i : Int), .int lo, .int hi] ∧ SqT K H a (hs.map V.int) ∧ i < hs.length ∧ hs.length ≤ 1000 ∧
  ∀ H', Same H H' → Q (.bl (begins hs lo hi i)) H'
theorem ok_begins {f fA : Addr} {fd fdA : FuncData} {k : Nat} (F : Fun K "begins_passage" "begins_passage" sBegins f fd)
    (FA : Fun K "heights_after" "heights_after" sAfter fA fdA) (bA : Binds K fdA ["ring", "place"] []) (gA : mg "heights_after" = some (.ref fA)) :
    FnOk P w K mg base CX0 (k + 2) f fd ["ring", "place", "low", "high"] (spBegins K) := by
  have GA : FnOk P w K mg base CX0 (k + 1) fA fdA ["ring", "place"] (spAfter K) := ok_after FA
  refine F.ok scBegins (fun vs H Q E h => ?_) (fun cdv A outer s H vs Q E hr h => ?_)
  · obtain ⟨a, hs, i, lo, hi, rfl, _⟩ := h
    rfl
  · obtain ⟨a, hs, i, lo, hi, rfl, hS, hil, hl, q⟩ := h
    refine ⟨_, pss_cons (ps_if (pt_cmpR op_gt (pe_ix ix_tup (pv 0) (pv 1) (fun _ _ => rfl)) (pv 2) (nomark _)) (pss_one (ps_ret pe_bl)) pss_nil)
      (pss_cons (ps_for PassesOwn.never rfl (pi_tup (pe_call GA hr (by rfl) gA FA.kp bA .nil pass0 (pa_cons (pv 0) (pa_cons (pv 1) pa_nil)))) (pg_name (i := 4) scBegins.nd rfl (.inl rfl))
        (pss_cons (ps_if (pt_cmpR op_ge (pv 4) (pv 3) (nomark _)) (pss_one (ps_ret pe_bl)) pss_nil)
        (pss_one (ps_if (pt_cmpR op_le (pv 4) (pv 2) (nomark _)) (pss_one (ps_ret pe_bl)) pss_nil))))
      (pss_one (ps_ret pe_bl))), ?_⟩
    obtain ⟨h0, g0⟩ : ∃ h0, hs[i]? = some h0 := ⟨hs[i], List.getElem?_eq_getElem hil⟩
    have d0 : hs.getD i 0 = h0 := getD_of g0
    refine ⟨.ref a, rfl, .int (i : Int), rfl, a, _, _, .int h0, rfl, rfl, hS, atI_of rfl g0, .int lo, rfl, _, _, rfl, rfl, _, rfl, ite2 (fun e => ?_) (fun e => ?_)⟩
    · have hv : begins hs lo hi i = false := by
        unfold begins
        rw [d0, if_pos (of_decide_eq_true e)]
      rw [← hv]
      exact q _ (Same.refl _)
    have hlo : ¬ lo < h0 := fun z => e (decide_eq_true z)
    refine ⟨.ref a, rfl, .int (i : Int), rfl, a, hs, i, rfl, hS, hil, hl, fun p H1 s1 e1 => ?_⟩
    refine ⟨p, rfl, ⟨_, e1⟩, ?_⟩
    refine for_tup (K := K) (a := p) (xs := (after hs i).map V.int) (fun j σ H2 => ∃ y : Option V, σ = [some (.ref a), some (.int (i : Int)), some (.int lo), some (.int hi), y] ∧ H2 = H1 ∧ ∀ (j' : Nat) (x : Int), j' < j → (after hs i)[j']? = some x → outP lo hi x = false) ?_ ?_ ?_ ?_
    · exact ⟨none, rfl, rfl, fun j' _ h => absurd h (Nat.not_lt_zero _)⟩
    · rintro j σ H2 _ ⟨_, _, rfl, _⟩
      exact e1
    · rintro j x σ H2 hx ⟨y, rfl, rfl, hall⟩
      obtain ⟨c, hc, rfl⟩ := get_map_int hx
      refine ⟨.int c, rfl, .int hi, rfl, _, _, rfl, rfl, _, rfl, ite2 (fun e1 => ?_) (fun e1 => ?_)⟩
      · have hv : begins hs lo hi i = true := by
          unfold begins
          rw [d0, if_neg hlo, find_some hall hc (by unfold outP; rw [e1, Bool.true_or])]
          exact e1
        rw [← hv]
        exact q _ s1
      · have n1 : decide (hi ≤ c) = false := by
          cases h : decide (hi ≤ c) with
          | true => exact absurd h e1
          | false => rfl
        refine ⟨.int c, rfl, .int lo, rfl, _, _, rfl, rfl, _, rfl, ite2 (fun e2 => ?_) (fun e2 => ?_)⟩
        · have hv : begins hs lo hi i = false := by
            unfold begins
            rw [d0, if_neg hlo, find_some hall hc (by unfold outP; rw [e2, Bool.or_true])]
            exact n1
          rw [← hv]
          exact q _ s1
        · have n2 : decide (c ≤ lo) = false := by
            cases h : decide (c ≤ lo) with
            | true => exact absurd h e2
            | false => rfl
          refine ⟨some (.int c), rfl, rfl, ?_⟩
          intro j' x hj hz
          by_cases hjj : j' < j
          · exact hall j' x hjj hz
          · have : j' = j := by omega
            subst this
            rw [hc] at hz
            cases hz
            unfold outP
            rw [n1, n2]
            rfl
    · rintro σ H2 ⟨y, rfl, rfl, hall⟩
      have hv : begins hs lo hi i = false := by
        unfold begins
        rw [d0, if_neg hlo, find_none fun j' x hx => hall j' x (by rw [List.length_map]; exact (List.getElem?_eq_some_iff.mp hx).1) hx]
      rw [← hv]
      exact q _ s1
def spPass (K : PySem.W.Frag) : Sp := fun vs H Q _ => ∃ (a : Addr) (hs : List Int) (lo hi : Int), vs = [.ref a, .int lo, .int hi] ∧ SqT K H a (hs.map V.int) ∧ hs.length ≤ 1000 ∧
  ∀ p H', Same H H' → H p = none → H' p = some (.tup ((natInts (passOf hs lo hi)).map V.int)) → Q (.ref p) H'
theorem ok_pass {f fT fA : Addr} {fd fdT fdA : FuncData} {k : Nat} (F : Fun K "passage_places" "passage_places" sPass f fd)
    (FT : Fun K "begins_passage" "begins_passage" sBegins fT fdT) (bT : Binds K fdT ["ring", "place", "low", "high"] []) (gT : mg "begins_passage" = some (.ref fT))
    (FA : Fun K "heights_after" "heights_after" sAfter fA fdA) (bA : Binds K fdA ["ring", "place"] []) (gA : mg "heights_after" = some (.ref fA))
    (ml : mg "len" = none) (mr : mg "range" = none) (mt : mg "tuple" = none) :
    FnOk P w K mg base CX0 (k + 3) f fd ["ring", "low", "high"] (spPass K) := by
  have GT : FnOk P w K mg base CX0 (k + 2) fT fdT ["ring", "place", "low", "high"] (spBegins K) := ok_begins FT FA bA gA
  refine F.ok scPass (fun vs H Q E h => ?_) (fun cdv A outer s H vs Q E hr h => ?_)
  · obtain ⟨a, hs, lo, hi, rfl, _⟩ := h
    rfl
  · obtain ⟨a, hs, lo, hi, rfl, hS, hl, q⟩ := h
    refine ⟨_, pss_one (ps_ret (pe_callTy call_tuple_of (by rfl) mt (by decide +kernel) (pa_cons (pe_lc (own := [("place", 3)]) (g := gName 3) (by rfl) scPass.nd
        (pi_range1 (by rfl) mr (pa_cons (pe_callB call_len_seq (by rfl) ml PySem.boot_len (pa_cons (pv 0) pa_nil)) pa_nil))
        (blkOk_by (own := [("place", 3)]) (N := nPass) (sc := defScope sPass) (by decide +kernel))
        (fun _ _ _ _ _ => pg_name (i := 3) scPass.nd rfl (Or.inl rfl))
        (fun _ _ _ _ _ => pts_one (pt_val (pe_call GT hr (by rfl) gT FT.kp bT .nil pass0 (pa_cons (pv 0) (pa_cons (pv 3) (pa_cons (pv 1) (pa_cons (pv 2) pa_nil)))))))
        (fun _ _ _ _ _ => pv 3)) pa_nil))), ?_⟩
    refine ⟨.ref a, rfl, a, _, rfl, .inr hS, _, rfl, ?_, ?_, fun D nD => ?_⟩
    · rw [List.length_map]
      omega
    · rw [List.length_map]
      omega
    have el : (((hs.map V.int).length : Nat) : Int).toNat = hs.length := by
      rw [List.length_map]
      omega
    rw [el]
    refine lc_range (lo := 0) (n := hs.length) (fun j H2 => Same H H2 ∧ H2 D = some (.lst ((natInts (((List.range hs.length).take j).filter (begins hs lo hi))).map V.int))) ?_ ?_ ?_
    · exact ⟨same_upd nD, upd_same⟩
    · rintro j H2 hj ⟨s2, e2⟩
      have ej : (0 : Int) + (j : Int) = (j : Int) := Int.zero_add _
      rw [ej]
      refine ⟨rfl, .ref a, rfl, .int (j : Int), rfl, .int lo, rfl, .int hi, rfl, a, hs, j, lo, hi, rfl, Same.tupq s2 hS, hj, hl, fun H3 s3 => ?_⟩
      refine ⟨_, rfl, ?_⟩
      have fs := filter_take_succ (p := begins hs lo hi) hj
      cases ht : begins hs lo hi j with
      | true =>
        rw [ht, if_pos rfl] at fs
        refine ⟨.int (j : Int), rfl, _, s3 _ _ e2, ?_, ?_, ?_⟩
        · rw [List.length_map]
          unfold natInts
          rw [List.length_map]
          refine small1000 (Nat.le_trans (List.length_filter_le _ _) ?_)
          rw [List.length_take, List.length_range]
          omega
        · intro b o e
          rw [upd_ne (ne_of_none e nD)]
          exact s3 _ _ (s2 _ _ e)
        · rw [upd_same, fs, natInts_app, List.map_append]
          rfl
      | false =>
        rw [ht, if_neg Bool.false_ne_true, List.append_nil] at fs
        refine ⟨s2.trans s3, ?_⟩
        rw [fs]
        exact s3 _ _ e2
    · rintro H2 ⟨s2, e2⟩
      rw [List.take_of_length_le (by rw [List.length_range]; exact Nat.le_refl _)] at e2
      refine ⟨D, _, rfl, .inl ⟨SqL.of e2, fun p np => ?_⟩⟩
      exact q p _ (s2.trans (same_upd np)) (s2.free np) upd_same
end
/-! ### count_passages -/
abbrev sCount : Stmt := topS 8
abbrev nCount : List Str := ["ring", "low", "high"]
theorem scCount : FnScope nCount nCount (defScope sCount) := ⟨rfl, rfl, rfl, by decide +kernel, rfl, by decide +kernel, by decide +kernel⟩
section
variable {P : Program} {w : World} {K : PySem.W.Frag} {mg : Str → Option Value} {base : Heap}
def spCount (K : PySem.W.Frag) : Sp := fun vs H Q _ => ∃ (a : Addr) (hs : List Int) (lo hi : Int), vs = [.ref a, .int lo, .int hi] ∧ SqT K H a (hs.map V.int) ∧ hs.length ≤ 1000 ∧ lo < hi ∧
  ∀ H', Same H H' → Q (.int ((cyc (marks hs lo hi) : Nat) : Int)) H'
theorem ok_count {f fP fT fA : Addr} {fd fdP fdT fdA : FuncData} {k : Nat} (F : Fun K "count_passages" "count_passages" sCount f fd)
    (FP : Fun K "passage_places" "passage_places" sPass fP fdP) (bP : Binds K fdP ["ring", "low", "high"] []) (gP : mg "passage_places" = some (.ref fP))
    (FT : Fun K "begins_passage" "begins_passage" sBegins fT fdT) (bT : Binds K fdT ["ring", "place", "low", "high"] []) (gT : mg "begins_passage" = some (.ref fT))
    (FA : Fun K "heights_after" "heights_after" sAfter fA fdA) (bA : Binds K fdA ["ring", "place"] []) (gA : mg "heights_after" = some (.ref fA))
    (ml : mg "len" = none) (mr : mg "range" = none) (mt : mg "tuple" = none) :
    FnOk P w K mg base CX0 (k + 4) f fd ["ring", "low", "high"] (spCount K) := by
  have GP : FnOk P w K mg base CX0 (k + 3) fP fdP ["ring", "low", "high"] (spPass K) := ok_pass FP FT bT gT FA bA gA ml mr mt
  refine F.ok scCount (fun vs H Q E h => ?_) (fun cdv A outer s H vs Q E hr h => ?_)
  · obtain ⟨a, hs, lo, hi, rfl, _⟩ := h
    rfl
  · obtain ⟨a, hs, lo, hi, rfl, hS, hl, hlh, q⟩ := h
    refine ⟨_, pss_one (ps_ret (pe_callB call_len_seq (by rfl) ml PySem.boot_len (pa_cons (pe_call GP hr (by rfl) gP FP.kp bP .nil pass0 (pa_cons (pv 0) (pa_cons (pv 1) (pa_cons (pv 2) pa_nil)))) pa_nil))), ?_⟩
    refine ⟨.ref a, rfl, .int lo, rfl, .int hi, rfl, a, hs, lo, hi, rfl, hS, hl, fun p H1 s1 np ep => ?_⟩
    refine ⟨p, _, rfl, .inr (SqT.of ep), ?_⟩
    have e : ((natInts (passOf hs lo hi)).map V.int).length = cyc (marks hs lo hi) := by
      rw [List.length_map, ← pass_count hlh]
      exact List.length_map ..
    rw [e]
    exact q _ s1
end
end R16

set_option Elab.async false
set_option linter.all false
set_option maxRecDepth 100000
namespace R16
open PySem PySem.Spec PyProof.Rows L2 RS
/-! ### the deck and its draws -/
abbrev sDeck : Stmt := topS 15
abbrev nDeck : List Str := ["_law_script", "_law_cell"]
theorem scDeck : FnScope nDeck ["_law_script"] (defScope sDeck) := ⟨rfl, rfl, rfl, by decide +kernel, rfl, by decide +kernel, by decide +kernel⟩
section
variable {P : Program} {w : World} {K : PySem.W.Frag} {mg : Str → Option Value} {base : Heap}
def spDeck (K : PySem.W.Frag) : Sp := fun vs H Q _ => ∃ (a : Addr) (ns : List Int), vs = [.ref a] ∧ SqL K H a (ns.map V.int) ∧
  ∀ H' d l, Same H H' → H d = none → H l = none → Deck H' d l 0 → Q (.ref d) H'
theorem ok_deck {f : Addr} {fd : FuncData} {k : Nat} (F : Fun K "_law_deck" "_law_deck" sDeck f fd) (ma : mg "abs" = none) :
    FnOk P w K mg base CX0 (k + 1) f fd ["_law_script"] (spDeck K) := by
  refine F.ok scDeck (fun vs H Q E h => ?_) (fun cdv A outer s H vs Q E hr h => ?_)
  · obtain ⟨a, ns, rfl, _⟩ := h
    rfl
  · obtain ⟨a, ns, rfl, hS, q⟩ := h
    refine ⟨_, pss_one (ps_ret (pe_lst (pa_cons (pe_lc (own := [("_law_cell", 1)]) (g := gName 1) (tt := tYes) (by rfl) scDeck.nd
        (pi_list (pe_slice sl_list (pv 0) po_none (po_some pe_int)))
        (blkOk_by (own := [("_law_cell", 1)]) (N := nDeck) (sc := defScope sDeck) (by decide +kernel))
        (fun _ _ _ _ _ => pg_name (i := 1) scDeck.nd rfl (Or.inl rfl)) (fun _ _ _ _ _ => pts_nil)
        (fun _ _ _ _ _ => pe_callB call_abs (by rfl) ma boot_abs (pa_cons (pv 1) pa_nil)))
      (pa_cons pe_int pa_nil)))), ?_⟩
    refine ⟨.ref a, rfl, 60, rfl, a, ns.map V.int, rfl, hS, fun p np => ?_⟩
    rw [show cutV (ns.map V.int) none (some 60) = (ns.take 60).map V.int by
      rw [List.map_take]
      exact cut_to _ 60]
    have s1 : Same H (upd H p (.lst ((ns.take 60).map V.int))) := same_upd np
    refine ⟨p, rfl, ⟨_, .inl (.inl upd_same)⟩, fun D nD => ?_⟩
    have nDp : D ≠ p := by
      rintro rfl
      rw [upd_same] at nD
      cases nD
    generalize hcs : ns.take 60 = cs at *
    have hlen : cs.length ≤ 63 := by
      rw [← hcs, List.length_take]
      omega
    refine lc_list (K := K) (a := p) (xs := cs.map V.int)
      (fun i H2 => Same H H2 ∧ H2 p = some (.lst (cs.map V.int)) ∧ ∃ as : List Int, H2 D = some (.lst (as.map V.int)) ∧ as.length = i ∧ ∀ c ∈ as, 0 ≤ c)
      ?_ ?_ ?_ ?_
    · exact ⟨s1.trans (same_upd nD), by rw [upd_ne nDp.symm, upd_same], [], upd_same, rfl, fun _ h => nomatch h⟩
    · intro i H2 _ h
      exact .inl (.inl h.2.1)
    · intro i x H2 hx h
      obtain ⟨h1, h2, as, h3, h4, h5⟩ := h
      obtain ⟨c, hc, rfl⟩ := get_map_int hx
      refine ⟨rfl, .int c, rfl, c, rfl, as.map V.int, h3, ?_, ?_, ?_, as ++ [if c < 0 then -c else c], ?_, ?_, ?_⟩
      · rw [List.length_map, h4]
        have hi : i < cs.length := (List.getElem?_eq_some_iff.mp hc).1
        exact small1000 (by omega)
      · intro b o e
        have nb : b ≠ D := ne_of_none e (s1.free nD)
        rw [upd_ne nb]
        exact h1 b o e
      · rw [upd_ne nDp.symm]
        exact h2
      · rw [upd_same, List.map_append]
        rfl
      · rw [List.length_append, h4]
        rfl
      · intro z hz
        rcases List.mem_append.mp hz with hz | hz
        · exact h5 z hz
        · rw [List.mem_singleton] at hz
          rw [hz]
          split <;> omega
    · intro H2 h
      obtain ⟨h1, h2, as, h3, h4, h5⟩ := h
      rw [List.length_map] at h4
      refine ⟨by show 2 ≤ sizeLine; decide, fun e ne => ?_⟩
      have nDe : D ≠ e := ne_of_none h3 ne
      refine q _ e D (h1.trans (same_upd ne)) (h1.free ne) (s1.free nD) ⟨upd_same, ⟨as, ?_, h5, by omega⟩, nDe, by decide⟩
      rw [upd_ne nDe]
      exact h3
end
abbrev sDraw : Stmt := topS 16
abbrev nDraw : List Str := ["_law_deck_here", "_law_bound", "_law_at", "_law_cell", "_law_mixed"]
theorem scDraw : FnScope nDraw ["_law_deck_here", "_law_bound"] (defScope sDraw) := ⟨rfl, rfl, rfl, by decide +kernel, rfl, by decide +kernel, by decide +kernel⟩
section
variable {P : Program} {w : World} {K : PySem.W.Frag} {mg : Str → Option Value} {base : Heap}
def spDraw : Sp := fun vs H Q _ => ∃ (d l : Addr) (n lim : Int), vs = [.ref d, .int lim] ∧ Deck H d l n ∧ n < 1000000000000 ∧ 0 < lim ∧ lim < 1000000000000 ∧
  ∀ H' v, 0 ≤ v → v < lim → Deck H' d l (n + 1) → Keep d l H H' → Q (.int v) H'
theorem ok_draw {f : Addr} {fd : FuncData} {k : Nat} (F : Fun K "_law_draw" "_law_draw" sDraw f fd) (ml : mg "len" = none) (mx : mg "max" = none) :
    FnOk P w K mg base CX0 (k + 1) f fd ["_law_deck_here", "_law_bound"] spDraw := by
  refine F.ok scDraw (fun vs H Q E h => ?_) (fun cdv A outer s H vs Q E hr h => ?_)
  · obtain ⟨d, l, n, lim, rfl, _⟩ := h
    rfl
  · obtain ⟨d, l, n, lim, rfl, D, hn, h0, hlim, q⟩ := h
    refine ⟨_, pss_cons (ps_asg (pe_op op_add (pe_ix ix_list (pv 0) pe_int (fun _ _ => rfl)) pe_int) (pg_sub (pv 0) pe_int set_list))
      (pss_cons (ps_set (i := 2) scDraw.nd rfl (.inl rfl) (pe_op op_mod (pe_ix ix_list (pv 0) pe_int (fun _ _ => rfl)) (pe_callB (call_max2 rfl) (by rfl) mx boot_max (pa_cons pe_int (pa_cons (pe_callB call_len_seq (by rfl) ml PySem.boot_len (pa_cons (pe_ix ix_list (pv 0) pe_int (fun _ _ => rfl)) pa_nil)) pa_nil)))))
      (pss_cons (ps_set (i := 3) scDraw.nd rfl (.inl rfl) (pe_ix ix_list (pe_op op_cat (pe_ix ix_list (pv 0) pe_int (fun _ _ => rfl)) (pe_lst (pa_cons pe_int pa_nil))) (pv 2) (fun _ _ => rfl)))
      (pss_cons (ps_if (pt_cmpR op_ge (pv 3) (pe_op op_pow pe_int pe_int) (nomark _))
        (pss_cons (ps_asg (pe_op op_fdivW (pv 3) (pv 1)) (pg_sub (pe_ix ix_list (pv 0) pe_int (fun _ _ => rfl)) (pv 2) set_list))
        (pss_one (ps_ret (pe_op op_mod (pv 3) (pv 1))))) pss_nil)
      (pss_cons (ps_set (i := 4) scDraw.nd rfl (.inl rfl) (pe_op op_mod (pe_op op_pow (pe_op op_add (pe_op op_add (pe_op op_mod (pv 3) pe_int) (pe_op op_mul pe_int (pe_ix ix_list (pv 0) pe_int (fun _ _ => rfl)))) pe_int) pe_int) pe_int))
      (pss_one (ps_ret (pe_op op_mod (pe_op op_add (pe_op op_fdiv (pv 4) pe_int) (pe_op op_mul pe_int (pe_ix ix_list (pv 0) pe_int (fun _ _ => rfl)))) (pv 1)))))))), ?_⟩
    obtain ⟨cs, hl, hc, hlen⟩ := D.cards
    have hd := D.top
    have hdl := D.ne
    have hn0 := D.n0
    have hlm : (cs.map V.int).length = cs.length := List.length_map ..
    refine ⟨.ref d, rfl, d, _, 1, .int n, rfl, rfl, SqL.of hd, atI_nat (j := 1) rfl, n, 1, rfl, rfl, .ref d, rfl, d, _, 1, 1, rfl, rfl, hd, rfl, ?_⟩
    generalize hH0 : upd H d (.lst ([.ref l, .int n].set 1 (.int (n + 1)))) = H0
    have d0 : H0 d = some (.lst [.ref l, .int (n + 1)]) := by
      rw [← hH0, upd_same]
      rfl
    have l0 : H0 l = some (.lst (cs.map V.int)) := by
      rw [← hH0, upd_ne hdl]
      exact hl
    have off0 : Keep d l H H0 := by
      intro b o b1 _ h
      rw [← hH0, upd_ne b1]
      exact h
    -- at = deck[1] % max(1, len(deck[0]))
    generalize hmx : (if (cs.length : Int) > 1 then (cs.length : Int) else 1) = mxv
    have mx0 : 0 < mxv := by
      rw [← hmx]
      split <;> omega
    have mx1 : mxv ≤ (cs.length : Int) + 1 ∧ (0 < cs.length → mxv = (cs.length : Int)) ∧ (cs.length = 0 → mxv = 1) := by
      rw [← hmx]
      split <;> omega
    refine ⟨.ref d, rfl, d, _, 1, .int (n + 1), rfl, rfl, SqL.of d0, atI_nat (j := 1) rfl, .ref d, rfl, d, _, 0, .ref l, rfl, rfl, SqL.of d0, atI_nat (j := 0) rfl, l, cs.map V.int, rfl, .inl (SqL.of l0), _, _, rfl, n + 1, mxv, rfl, (show V.int (if (((cs.map V.int).length : Nat) : Int) > 1 then (((cs.map V.int).length : Nat) : Int) else 1) = V.int mxv by rw [hlm, hmx]), mx0, ?_⟩
    obtain ⟨j, hj⟩ : ∃ j : Nat, (n + 1) % mxv = (j : Int) := ⟨_, (Int.toNat_of_nonneg (Int.emod_nonneg _ (by omega))).symm⟩
    have hj2 : (j : Int) < mxv := by
      rw [← hj]
      exact Int.emod_lt_of_pos _ mx0
    -- cell = (deck[0] + [0])[at]
    refine ⟨.ref d, rfl, d, _, 0, .ref l, rfl, rfl, SqL.of d0, atI_nat (j := 0) rfl, by show 1 ≤ sizeLine; decide, fun T nT => ?_⟩
    generalize hH1 : upd H0 T (.lst [.int 0]) = H1
    have s01 : Same H0 H1 := hH1 ▸ same_upd nT
    have eT : H1 T = some (.lst [.int 0]) := hH1 ▸ upd_same
    refine ⟨l, T, _, _, rfl, rfl, s01 _ _ l0, eT, by rw [hlm]; exact Nat.le_of_lt (small1000 (by show cs.length + 1 ≤ 1000; omega)), fun U nU => ?_⟩
    generalize hH2 : upd H1 U (.lst (cs.map V.int ++ [.int 0])) = H2
    have s12 : Same H1 H2 := hH2 ▸ same_upd nU
    have eU : H2 U = some (.lst ((cs ++ [0]).map V.int)) := by
      rw [← hH2, upd_same, List.map_append]
      rfl
    have d1 := s12 _ _ (s01 _ _ d0)
    have l1 := s12 _ _ (s01 _ _ l0)
    have off1 : Keep d l H H2 := off0.trans (Keep.same (s01.trans s12))
    obtain ⟨c, gc, hc0, hcl⟩ : ∃ c, (cs ++ [0])[j]? = some c ∧ 0 ≤ c ∧ (0 < c → cs[j]? = some c ∧ j < cs.length) := by
      by_cases hz : j < cs.length
      · refine ⟨cs[j], ?_, hc _ (List.getElem_mem hz), fun _ => ⟨List.getElem?_eq_getElem hz, hz⟩⟩
        rw [List.getElem?_append_left hz]
        exact List.getElem?_eq_getElem hz
      · have hz0 : cs.length = 0 := by
          refine Classical.byContradiction fun z => ?_
          have := mx1.2.1 (by omega)
          omega
        have hj0 : j = 0 := by
          have := mx1.2.2 hz0
          omega
        subst hj0
        have : cs = [] := List.eq_nil_of_length_eq_zero hz0
        subst this
        exact ⟨0, rfl, by omega, fun z => absurd z (by omega)⟩
    refine ⟨_, rfl, U, _, _, .int c, rfl, rfl, SqL.of eU, (by rw [hj]; exact atI_nat (map_get gc)), ?_⟩
    refine ⟨.int c, rfl, _, _, rfl, rfl, ⟨by decide, by decide, by decide⟩, _, _, rfl, rfl, _, rfl, ite2 (fun e => ?_) (fun e => ?_)⟩
    · have e' : (10 : Int) ^ (18 : Int).toNat ≤ c := of_decide_eq_true e
      have e18 : (10 : Int) ^ (18 : Int).toNat = 1000000000000000000 := by decide
      rw [e18] at e'
      obtain ⟨gj, hjl⟩ := hcl (by omega)
      refine ⟨.int c, rfl, .int lim, rfl, _, _, rfl, rfl, wide_div (b := 64) h0 (by omega) (by decide) (by decide), .ref d, rfl, d, _, 0, .ref l, rfl, rfl, SqL.of d1, atI_nat (j := 0) rfl, _, rfl, l, _, _, j, rfl, rfl, l1, ?_, ?_⟩
      · rw [hj, hlm]
        unfold ixN
        rw [if_pos (by omega), if_pos (by omega), Int.toNat_natCast]
      · refine ⟨.int c, rfl, .int lim, rfl, _, _, rfl, rfl, h0, q _ _ (Int.emod_nonneg _ (by omega)) (Int.emod_lt_of_pos _ h0) ⟨?_, ⟨cs.set j (c / lim), ?_, ?_, ?_⟩, hdl, by omega⟩ ?_⟩
        · rw [upd_ne hdl.symm]
          exact d1
        · rw [upd_same, List.map_set]
        · intro z hz
          rcases List.mem_or_eq_of_mem_set hz with hz | hz
          · exact hc z hz
          · rw [hz]
            exact Int.ediv_nonneg hc0 (by omega)
        · rw [List.length_set]
          exact hlen
        · intro b o b1 b2 h
          rw [upd_ne b2]
          exact off1 b o b1 b2 h
    · refine ⟨.int c, rfl, _, _, rfl, rfl, (by show (0 : Int) < 2147483563; decide), .ref d, rfl, d, _, 1, .int (n + 1), rfl, rfl, SqL.of d1, atI_nat (j := 1) rfl, _, _, rfl, rfl, .inl ⟨by decide, by decide⟩, _, _, rfl, rfl, _, _, rfl, rfl, _, _, rfl, rfl, ⟨by decide, by decide, ?_⟩, _, _, rfl, rfl, (by show (0 : Int) < 2147483629; decide), ?_⟩
      · have a1 : 0 ≤ c % 2147483563 := Int.emod_nonneg _ (by decide)
        have a2 : c % 2147483563 < 2147483563 := Int.emod_lt_of_pos _ (by decide)
        omega
      · refine ⟨_, rfl, _, _, rfl, rfl, ⟨by decide, by decide⟩, .ref d, rfl, d, _, 1, .int (n + 1), rfl, rfl, SqL.of d1, atI_nat (j := 1) rfl, _, _, rfl, rfl, .inl ⟨by decide, by decide⟩, _, _, rfl, rfl, .int lim, rfl, _, _, rfl, rfl, h0, ?_⟩
        exact q _ _ (Int.emod_nonneg _ (by omega)) (Int.emod_lt_of_pos _ h0) ⟨d1, ⟨cs, l1, hc, hlen⟩, hdl, by omega⟩ off1
end
/-! ### the law's thresholds and numbers -/
abbrev sThr : Stmt := topS 17
abbrev sNum : Stmt := topS 18
abbrev nThr : List Str := ["_law_found", "_law_low", "_law_high"]
abbrev nNum : List Str := ["_law_swings", "_law_found", "_law_low", "_law_high", "_law_swing"]
theorem scThr : FnScope nThr [] (defScope sThr) := ⟨rfl, rfl, rfl, by decide +kernel, rfl, by decide +kernel, by decide +kernel⟩
theorem scNum : FnScope nNum ["_law_swings"] (defScope sNum) := ⟨rfl, rfl, rfl, by decide +kernel, rfl, by decide +kernel, by decide +kernel⟩
section
variable {P : Program} {w : World} {K : PySem.W.Frag} {mg : Str → Option Value} {base : Heap}
def spThr : Sp := fun vs H Q _ => vs = [] ∧ ∀ p H' ps, Same H H' → H p = none → H' p = some (.lst (ps.map V.ref)) → Pairs H' ps thr → Q (.ref p) H'
set_option maxHeartbeats 1000000 in
theorem ok_thr {f : Addr} {fd : FuncData} {k : Nat} (F : Fun K "_law_thresholds" "_law_thresholds" sThr f fd) (mr : mg "range" = none) :
    FnOk P w K mg base CX0 (k + 1) f fd [] spThr := by
  refine F.ok scThr (fun vs H Q E h => ?_) (fun cdv A outer s H vs Q E hr h => ?_)
  · obtain ⟨rfl, _⟩ := h
    rfl
  · obtain ⟨rfl, q⟩ := h
    refine ⟨_, pss_cons (ps_set (i := 0) scThr.nd rfl (.inl rfl) (pe_lst pa_nil))
      (pss_cons (ps_for PassesOwn.never rfl (pi_range2 (by rfl) mr (pa_cons (pe_un un_neg pe_int) (pa_cons pe_int pa_nil))) (pg_name (i := 1) scThr.nd rfl (.inr rfl))
        (pss_one (ps_expr (pe_bm PySem.F.plainAttrs_list PySem.F.slot_list_extend PySem.F.type_list_extend mt_extend (pv 0) (pa_cons
          (pe_lc (own := [("_law_high", 2)]) (g := gName 2) (tt := tYes) (by rfl) scThr.nd (pi_range2 (by rfl) mr (pa_cons (pe_op op_add (pv 1) pe_int) (pa_cons pe_int pa_nil)))
            (blkOk_by (own := [("_law_high", 2)]) (N := nThr) (sc := defScope sThr) (by decide +kernel))
            (fun _ _ _ _ _ => pg_name (i := 2) scThr.nd rfl (Or.inl rfl)) (fun _ _ _ _ _ => pts_nil)
            (fun _ _ _ _ _ => pe_tup (pa_cons (pv 1) (pa_cons (pv 2) pa_nil)))) pa_nil)))))
      (pss_one (ps_ret (pv 0)))), ?_⟩
    refine ⟨by show 0 ≤ sizeLine; decide, fun L nL => ?_⟩
    refine ⟨1, rfl, -1, 8, rfl, ⟨by decide, by decide, by decide, by decide⟩, ?_⟩
    refine for_range (lo := -1) (n := 9) (fun i σ H2 => ∃ (y1 y2 : Option V) (ps : List Addr), σ = [some (.ref L), y1, y2] ∧ Same H H2 ∧ H2 L = some (.lst (ps.map V.ref)) ∧ Pairs H2 ps (thrTo i)) ?_ ?_ ?_
    · exact ⟨none, none, [], rfl, same_upd nL, upd_same, .nil⟩
    · rintro i σ H2 hi ⟨y1, y2, ps, rfl, s2, e2, pp⟩
      refine ⟨.ref L, rfl, .inl ⟨rfl, _, SqL.of e2⟩, _, rfl, _, _, rfl, rfl, _, 9, rfl, ⟨by omega, by omega, by decide, by decide⟩, fun D nD => ?_⟩
      rw [show (9 - (-1 + (i : Int) + 1)).toNat = 9 - i by omega]
      refine lc_range (lo := -1 + (i : Int) + 1) (n := 9 - i) (fun j H3 => Same H2 H3 ∧ ∃ qs : List Addr, H3 D = some (.lst (qs.map V.ref)) ∧ Pairs H3 qs (thrRow i j)) ?_ ?_ ?_
      · exact ⟨same_upd nD, [], upd_same, .nil⟩
      · rintro j H3 hj ⟨s3, qs, e3, pq⟩
        refine ⟨rfl, _, rfl, _, rfl, by show 2 ≤ sizeLine; decide, fun T nT => ?_⟩
        have sT := same_upd (o := .tup [.int (-1 + (i : Int)), .int (-1 + (i : Int) + 1 + (j : Int))]) nT
        have lq : qs.length = j := by
          rw [pq.1]
          unfold thrRow
          rw [List.length_map, List.length_range]
        refine ⟨_, sT _ _ e3, ?_, ?_, qs ++ [T], ?_, ?_⟩
        · rw [List.length_map]
          exact small1000 (by omega)
        · intro b o z
          rw [upd_ne (ne_of_none z nD)]
          exact sT _ _ (s3 _ _ z)
        · rw [upd_same, List.map_append]
          rfl
        · rw [thrRow_succ]
          exact ((pq.same sT).snoc (s := (-1 + (i : Int), -1 + (i : Int) + 1 + (j : Int))) upd_same).updL (sT _ _ e3)
      · rintro H3 ⟨s3, qs, e3, pq⟩
        have e23 := s3 _ _ e2
        have lp : ps.length ≤ 45 := by
          rw [pp.1]
          exact thrTo_len i (by omega)
        have lq : qs.length ≤ 9 := by
          rw [pq.1]
          unfold thrRow
          rw [List.length_map, List.length_range]
          omega
        refine ⟨L, D, _, _, rfl, rfl, e23, e3, ?_, ?_⟩
        · rw [List.length_map, List.length_map]
          exact Nat.le_of_lt (small1000 (by omega))
        refine ⟨_, _, ps ++ qs, rfl, ?_, ?_, ?_⟩
        · intro b o z
          rw [upd_ne (ne_of_none z nL)]
          exact s3 _ _ (s2 _ _ z)
        · rw [upd_same, List.map_append]
        · rw [thrTo_succ]
          exact ((pp.same s3).app pq).updL e23
    · rintro σ H2 ⟨y1, y2, ps, rfl, s2, e2, pp⟩
      exact ⟨_, rfl, q L H2 ps s2 nL e2 pp⟩
def spNum (K : PySem.W.Frag) : Sp := fun vs H Q _ => ∃ (b : Addr) (ps : List Addr) (sw : List (Int × Int)), vs = [.ref b] ∧ SqT K H b (ps.map V.ref) ∧ Pairs H ps sw ∧ sw.length ≤ 100 ∧
  ∀ p H', Same H H' → H p = none → H' p = some (.lst ((numsOf16 sw).map V.int)) → Q (.ref p) H'
set_option maxHeartbeats 1000000 in
theorem ok_num {f fT : Addr} {fd fdT : FuncData} {k : Nat} (F : Fun K "_law_numbers" "_law_numbers" sNum f fd)
    (FT : Fun K "_law_thresholds" "_law_thresholds" sThr fT fdT) (bT : Binds K fdT [] []) (gT : mg "_law_thresholds" = some (.ref fT)) (mr : mg "range" = none) (ml : mg "len" = none) :
    FnOk P w K mg base CX0 (k + 2) f fd ["_law_swings"] (spNum K) := by
  have GT : FnOk P w K mg base CX0 (k + 1) fT fdT [] spThr := ok_thr FT mr
  refine F.ok scNum (fun vs H Q E h => ?_) (fun cdv A outer s H vs Q E hr h => ?_)
  · obtain ⟨b, ps, sw, rfl, _⟩ := h
    rfl
  · obtain ⟨b, ps, sw, rfl, eb, pp, lw, q⟩ := h
    refine ⟨_, pss_cons (ps_set (i := 1) scNum.nd rfl (.inl rfl) (pe_lst pa_nil))
      (pss_cons (ps_for PassesOwn.never rfl (pi_list (pe_call0 GT hr (by rfl) gT FT.kp bT .nil pass0)) (pg_tup (by rfl) (pgs_cons (pg_name (i := 2) scNum.nd rfl (.inr rfl)) (pgs_cons (pg_name (i := 3) scNum.nd rfl (.inr rfl)) pgs_nil)))
        (pss_one (ps_expr (pe_bm PySem.F.plainAttrs_list PySem.F.slot_list_append PySem.F.type_list_append mt_append (pv 1) (pa_cons
          (pe_callB call_len_seq (by rfl) ml PySem.boot_len (pa_cons
            (pe_lc (own := [("_law_swing", 4)]) (g := gName 4) (by rfl) scNum.nd (pi_tup (pv 0))
              (blkOk_by (own := [("_law_swing", 4)]) (N := nNum) (sc := defScope sNum) (by decide +kernel))
              (fun _ _ _ _ _ => pg_name (i := 4) scNum.nd rfl (Or.inl rfl))
              (fun _ _ _ _ _ => pts_one (PW.pt (pw_and (pt_cmpR op_le (pe_ix (ixT K) (pv 4) pe_int (fun _ _ => rfl)) (pv 2) (nomark _)) (pw_and1 (pt_cmpR op_ge (pe_ix (ixT K) (pv 4) pe_int (fun _ _ => rfl)) (pv 3) (nomark _))))))
              (fun _ _ _ _ _ => pv 4)) pa_nil)) pa_nil)))))
      (pss_one (ps_ret (pv 1)))), ?_⟩
    have lps : ps.length = sw.length := pp.1
    refine ⟨by show 0 ≤ sizeLine; decide, fun L nL => ?_⟩
    have sL := same_upd (o := .lst []) nL
    have eL : (upd H L (.lst [])) L = some (.lst []) := upd_same
    generalize upd H L (.lst []) = H1 at sL eL
    refine ⟨rfl, fun pt H2 ts s2 npt e2 pt2 => ?_⟩
    refine ⟨pt, rfl, ⟨_, SqL.of e2⟩, ?_⟩
    have nptL : pt ≠ L := by
      rintro rfl
      rw [eL] at npt
      cases npt
    have fL2 := s2 _ _ eL
    refine for_list (K := K) (a := pt) (xs := ts.map V.ref) (fun j σ H3 => ∃ (y2 y3 y4 : Option V), σ = [some (.ref b), some (.ref L), y2, y3, y4] ∧ Same H H3 ∧ H3 pt = some (.lst (ts.map V.ref)) ∧ Pairs H3 ts thr ∧
      H3 L = some (.lst (((thr.take j).map fun t => ((swCount sw t.1 t.2 : Nat) : Int)).map V.int))) ?_ ?_ ?_ ?_
    · exact ⟨none, none, none, rfl, sL.trans s2, e2, pt2, fL2⟩
    · rintro j σ H3 _ ⟨_, _, _, _, _, e, _⟩
      exact .inl (.inl e)
    · rintro j x σ H3 hx ⟨y2, y3, y4, rfl, s3, e3, pt3, eL3⟩
      obtain ⟨t, gt, rfl⟩ := get_map_ref hx
      have hj : j < thr.length := by
        rw [← pt3.1]
        exact (List.getElem?_eq_some_iff.mp gt).1
      obtain ⟨th, gth⟩ : ∃ th, thr[j]? = some th := ⟨_, List.getElem?_eq_getElem hj⟩
      have et := pt3.2 j t th gt gth
      have hj45 : j < 45 := by
        rw [thr_len] at hj
        exact hj
      refine ⟨t, _, rfl, SqT.of et, rfl, _, _, rfl, _, _, rfl, rfl, ?_⟩
      have eb3 := Same.tupq s3 eb
      have pp3 := pp.same s3
      refine ⟨.ref L, rfl, .inl ⟨rfl, _, SqL.of eL3⟩, .ref b, rfl, b, rfl, ⟨_, eb3⟩, fun D2 nD2 => ?_⟩
      refine lc_tup (K := K) (a := b) (xs := ps.map V.ref) (fun i H9 => Same H3 H9 ∧ ∃ acc : List V, H9 D2 = some (.lst acc) ∧ acc.length = ((sw.take i).filter fun s => decide (s.1 ≤ th.1) && decide (th.2 ≤ s.2)).length) ?_ ?_ ?_ ?_
      · exact ⟨same_upd nD2, [], upd_same, rfl⟩
      · rintro i H9 _ ⟨s9, _⟩
        exact Same.tupq s9 eb3
      · rintro i x H9 hx9 ⟨s9, acc, eD2, la2⟩
        obtain ⟨t9, gt9, rfl⟩ := get_map_ref hx9
        have hi : i < sw.length := by
          rw [← lps]
          exact (List.getElem?_eq_some_iff.mp gt9).1
        obtain ⟨s1, gsw⟩ : ∃ s1, sw[i]? = some s1 := ⟨_, List.getElem?_eq_getElem hi⟩
        have et9 := (pp3.same s9).2 i t9 s1 gt9 gsw
        have fo := filter_take_one (p := fun s : Int × Int => decide (s.1 ≤ th.1) && decide (th.2 ≤ s.2)) gsw
        have lacc : acc.length ≤ 100 := by
          rw [la2]
          refine Nat.le_trans (List.length_filter_le _ _) ?_
          rw [List.length_take]
          omega
        refine ⟨rfl, .ref t9, rfl, t9, _, _, .int s1.1, rfl, rfl, SqT.of et9, rfl, _, rfl, _, _, rfl, rfl, _, rfl, ite2 (fun e => ?_) (fun e => ?_)⟩
        · refine ⟨.ref t9, rfl, t9, _, _, .int s1.2, rfl, rfl, SqT.of et9, rfl, _, rfl, _, _, rfl, rfl, _, rfl, ite2 (fun e2 => ?_) (fun e2 => ?_)⟩
          · rw [if_pos (by show (decide (s1.1 ≤ th.1) && decide (th.2 ≤ s1.2)) = true; rw [e, e2]; rfl)] at fo
            refine ⟨.ref t9, rfl, acc, eD2, small1000 (by omega), ?_, acc ++ [.ref t9], upd_same, ?_⟩
            · intro b' o z
              rw [upd_ne (ne_of_none z nD2)]
              exact s9 _ _ z
            · rw [fo, List.length_append, List.length_append, la2]
              rfl
          · rw [if_neg (by show ¬ (decide (s1.1 ≤ th.1) && decide (th.2 ≤ s1.2)) = true; intro z; exact e2 (Bool.and_eq_true_iff.mp z).2), List.append_nil] at fo
            exact ⟨s9, acc, eD2, by rw [la2, fo]⟩
        · rw [if_neg (by show ¬ (decide (s1.1 ≤ th.1) && decide (th.2 ≤ s1.2)) = true; intro z; exact e (Bool.and_eq_true_iff.mp z).1), List.append_nil] at fo
          exact ⟨s9, acc, eD2, by rw [la2, fo]⟩
      · rintro H9 ⟨s9, acc, eD2, la2⟩
        rw [List.length_map, lps, List.take_length, swCount_filter] at la2
        have eL9 := s9 _ _ eL3
        have e39 := s9 _ _ e3
        refine ⟨D2, _, rfl, .inl (SqL.of eD2), L, _, _, rfl, rfl, eL9, ?_, ?_⟩
        · rw [List.length_map, List.length_map, List.length_take]
          exact small1000 (by omega)
        rw [la2]
        refine ⟨_, _, _, rfl, ?_, ?_, ?_, ?_⟩
        · intro b' o z
          rw [upd_ne (ne_of_none z nL)]
          exact s9 _ _ (s3 _ _ z)
        · rw [upd_ne nptL]
          exact e39
        · exact (pt3.same s9).updL eL9
        · rw [upd_same]
          exact congrArg (fun z => some (HO.lst z)) (take_map_succ (f := fun t : Int × Int => ((swCount sw t.1 t.2 : Nat) : Int)) gth)
    · rintro σ H3 ⟨y2, y3, y4, rfl, s3, e3, pt3, eL3⟩
      rw [List.length_map, pt3.1, List.take_length] at eL3
      exact ⟨_, rfl, q L H3 s3 nL eL3⟩
end
end R16

set_option Elab.async false
set_option linter.all false
set_option maxRecDepth 100000
namespace R16
open PySem PySem.Spec PyProof.Rows L2 RS
/-! ### other tuples of swings -/
abbrev sOth : Stmt := topS 19
abbrev nOth : List Str := ["_law_deck_here", "_law_swings", "_law_low", "_law_more", "_law_found"]
theorem scOth : FnScope nOth ["_law_deck_here", "_law_swings"] (defScope sOth) := ⟨rfl, rfl, rfl, by decide +kernel, rfl, by decide +kernel, by decide +kernel⟩
section
variable {P : Program} {w : World} {K : PySem.W.Frag} {mg : Str → Option Value} {base : Heap}
def Good6 (K : PySem.W.Frag) (H : Hp) (b : Addr) : Prop := ∃ (ps : List Addr) (sw : List (Int × Int)), SqT K H b (ps.map V.ref) ∧ Pairs H ps sw ∧ sw.length ≤ 20 ∧ ∀ s ∈ sw, In6 s
theorem Good6.same {K : PySem.W.Frag} {H H' : Hp} {b : Addr} (g : Good6 K H b) (s : Same H H') : Good6 K H' b := by
  obtain ⟨ps, sw, a, b, c, d⟩ := g
  exact ⟨ps, sw, Same.tupq s a, b.same s, c, d⟩
def spOth (K : PySem.W.Frag) : Sp := fun vs H Q _ => ∃ (d l b : Addr) (n : Int) (ps : List Addr) (sw : List (Int × Int)), vs = [.ref d, .ref b] ∧ Deck H d l n ∧ n < 100000000000 ∧ H b = some (.tup (ps.map V.ref)) ∧ Pairs H ps sw ∧ sw.length ≤ 15 ∧ (∀ s ∈ sw, In6 s) ∧
  ∀ p H' (bs : List Addr), Deck H' d l (n + 1 + 1) → Keep d l H H' → H' p = some (.lst (bs.map V.ref)) → (∀ b ∈ bs, Good6 K H' b) → Q (.ref p) H'
theorem keep_pairs {d l : Addr} {n : Int} {H H' : Hp} {ps : List Addr} {sw : List (Int × Int)} (k : Keep d l H H') (D : Deck H d l n) (pp : Pairs H ps sw) : Pairs H' ps sw :=
  ⟨pp.1, fun i q t hq ht => k.tup D (pp.2 i q t hq ht)⟩
set_option maxHeartbeats 1000000 in
theorem ok_oth {f fD : Addr} {fd fdD : FuncData} {k : Nat} (F : Fun K "_law_others" "_law_others" sOth f fd)
    (FD : Fun K "_law_draw" "_law_draw" sDraw fD fdD) (bD : Binds K fdD ["_law_deck_here", "_law_bound"] []) (gD : mg "_law_draw" = some (.ref fD))
    (ml : mg "len" = none) (mx : mg "max" = none) (mi : mg "int" = none) :
    FnOk P w K mg base CX0 (k + 2) f fd ["_law_deck_here", "_law_swings"] (spOth K) := by
  have GD : FnOk P w K mg base CX0 (k + 1) fD fdD ["_law_deck_here", "_law_bound"] spDraw := ok_draw FD ml mx
  refine F.ok scOth (fun vs H Q E h => ?_) (fun cdv A outer s H vs Q E hr h => ?_)
  · obtain ⟨d, l, b, n, ps, sw, rfl, _⟩ := h
    rfl
  · obtain ⟨d, l, b, n, ps, sw, rfl, D, hn, eb, pp, lw, hw, q⟩ := h
    refine ⟨_, pss_cons (ps_set (i := 2) scOth.nd rfl (.inl rfl) (pe_call GD hr (by rfl) gD FD.kp bD .nil pass0 (pa_cons (pv 0) (pa_cons pe_int pa_nil))))
      (pss_cons (ps_set (i := 3) scOth.nd rfl (.inl rfl) (pe_tup (pa_cons (pv 2) (pa_cons (pe_op op_add (pe_op op_add (pv 2) pe_int) (pe_call GD hr (by rfl) gD FD.kp bD .nil pass0 (pa_cons (pv 0) (pa_cons (pe_op op_sub pe_int (pv 2)) pa_nil)))) pa_nil))))
      (pss_cons (ps_set (i := 4) scOth.nd rfl (.inl rfl) (pe_lst (pa_cons (pe_op op_catW (pv 1) (pe_tup (pa_cons (pv 3) pa_nil)))
        (pa_cons (pe_op op_catW (pe_slice sl_tupW (pv 1) (po_some pe_int) po_none) (pe_op op_repW (pe_tup (pa_cons (pv 3) pa_nil))
          (pe_callTy call_int1 (by rfl) mi (by decide +kernel) (pa_cons (pe_cmpR (op_neD hr.units) (pe_slice sl_tupW (pv 1) po_none (po_some pe_int)) (pe_tup (pa_cons (pv 3) pa_nil)) (nomark _)) pa_nil)))) pa_nil))))
      (pss_one (ps_ret (pe_op op_cat (pv 4) (pe_op op_rep (pe_lst (pa_cons (pe_slice sl_tupW (pv 1) (po_some pe_int) po_none) pa_nil))
        (pe_callTy call_int1 (by rfl) mi (by decide +kernel) (pa_cons (pe_cmpR (op_neD hr.units) (pv 1) (pe_tup pa_nil) (nomark _)) pa_nil)))))))), ?_⟩
    have lps : ps.length = sw.length := pp.1
    refine ⟨.ref d, rfl, d, l, n, 6, rfl, D, by omega, by decide, by decide, fun H1 lo lo0 lo1 D1 k1 => ?_⟩
    refine ⟨_, rfl, _, rfl, _, _, rfl, rfl, .ref d, rfl, _, rfl, _, _, rfl, rfl, d, l, n + 1, 6 - lo, rfl, D1, by omega, by omega, by omega, fun H2 x x0 x1 D2 k2 => ?_⟩
    refine ⟨_, _, rfl, rfl, by show 2 ≤ sizeLine; decide, fun m nm => ?_⟩
    have k02 : Keep d l H H2 := k1.trans k2
    have sm := same_upd (o := .tup [.int lo, .int (lo + 1 + x)]) nm
    have em : (upd H2 m (.tup [.int lo, .int (lo + 1 + x)])) m = some (.tup [.int lo, .int (lo + 1 + x)]) := upd_same
    have D3 := D2.same sm
    have kH3 : Keep d l H (upd H2 m (.tup [.int lo, .int (lo + 1 + x)])) := k02.trans (Keep.same sm)
    have ebA : H2 b = some (.tup (ps.map V.ref)) := k02.tup D eb
    have eb3 := sm _ _ ebA
    have pp3 := (keep_pairs k02 D pp).same sm
    generalize upd H2 m (.tup [.int lo, .int (lo + 1 + x)]) = H3 at em D3 kH3 eb3 pp3
    have pm : Pairs H3 [m] [(lo, lo + 1 + x)] := Pairs.snoc .nil em
    have i6 : In6 (lo, lo + 1 + x) := ⟨lo0, by show lo < lo + 1 + x; omega, by show lo + 1 + x ≤ 6; omega⟩
    -- swings + (more,)
    refine ⟨.ref b, rfl, .ref m, rfl, by show 1 ≤ sizeLine; decide, fun t4 n4 => ?_⟩
    have s4 := same_upd (o := .tup [.ref m]) n4
    refine ⟨b, t4, _, _, rfl, rfl, SqT.of (s4 _ _ eb3), .inl (.inl upd_same), ?_, fun p5 H5 s5 e5 => ?_⟩
    · rw [List.length_map]
      exact Nat.le_of_lt (small1000 (by show ps.length + 1 ≤ 1000; omega))
    have s35 := s4.trans s5
    have g5 : Good6 K H5 p5 := by
      refine ⟨ps ++ [m], sw ++ [(lo, lo + 1 + x)], ?_, (pp3.same s35).app (pm.same s35), ?_, ?_⟩
      · rw [List.map_append]
        exact e5
      · rw [List.length_append, List.length_singleton]
        omega
      · intro s hs
        rcases List.mem_append.mp hs with hs | hs
        · exact hw s hs
        · rw [List.mem_singleton.mp hs]
          exact i6
    -- swings[1:]
    have cutf : cutV (ps.map V.ref) (some 1) none = (ps.drop 1).map V.ref := by
      rw [List.map_drop]
      exact cut_from _ 1
    have cutt : cutV (ps.map V.ref) none (some 1) = (ps.take 1).map V.ref := by
      rw [List.map_take]
      exact cut_to _ 1
    have dropP : ∀ {H' : Hp}, Pairs H' ps sw → Pairs H' (ps.drop 1) (sw.drop 1) := by
      intro H' p
      refine ⟨by rw [List.length_drop, List.length_drop, p.1], fun i q t hq ht => ?_⟩
      rw [List.getElem?_drop] at hq ht
      exact p.2 _ q t hq ht
    have takeP : ∀ {H' : Hp}, Pairs H' ps sw → Pairs H' (ps.take 1) (sw.take 1) := by
      intro H' p
      refine ⟨by rw [List.length_take, List.length_take, p.1], fun i q t hq ht => ?_⟩
      by_cases hi : i < 1
      · rw [List.getElem?_take_of_lt hi] at hq ht
        exact p.2 _ q t hq ht
      · rw [List.getElem?_eq_none (by rw [List.length_take]; omega)] at hq
        cases hq
    refine ⟨.ref b, rfl, 1, rfl, b, _, rfl, SqT.of (s35 _ _ eb3), fun p6 H6 s6 e6 => ?_⟩
    rw [cutf] at e6
    have s36 := s35.trans s6
    refine ⟨.ref m, rfl, by show 1 ≤ sizeLine; decide, fun t7 n7 => ?_⟩
    have s7 := same_upd (o := .tup [.ref m]) n7
    have e7 : (upd H6 t7 (.tup [.ref m])) t7 = some (.tup ([m].map V.ref)) := upd_same
    generalize upd H6 t7 (.tup [.ref m]) = H7 at s7 e7
    have s37 := s36.trans s7
    refine ⟨.ref b, rfl, 1, rfl, b, _, rfl, SqT.of (s37 _ _ eb3), fun p8 H8 s8 e8 => ?_⟩
    rw [cutt] at e8
    have s38 := s37.trans s8
    refine ⟨.ref m, rfl, by show 1 ≤ sizeLine; decide, fun t9 n9 => ?_⟩
    have s9 := same_upd (o := .tup [.ref m]) n9
    have e9 : (upd H8 t9 (.tup [.ref m])) t9 = some (.tup ([m].map V.ref)) := upd_same
    generalize upd H8 t9 (.tup [.ref m]) = H9 at s9 e9
    have s39 := s38.trans s9
    refine ⟨.tuple (dTups (swInts (sw.take 1))), .tuple (dTups (swInts [(lo, lo + 1 + x)])), .tup (Same.tupq s9 e8) (takeP (pp3.same s39)).tups.dp, .tup (SqT.of e9) (pm.same s39).tups.dp, shaped_tt _, shaped_tt _, ?_⟩
    generalize (!PyData.eqv (.tuple (dTups (swInts (sw.take 1)))) (.tuple (dTups (swInts [(lo, lo + 1 + x)])))) = bb
    refine .inr ⟨bb, rfl, ?_⟩
    refine ⟨t7, _, _, rfl, rfl, SqT.of ((s8.trans s9) _ _ e7), by split <;> decide, by split <;> decide, by show 1 ≤ 1000; decide, fun p10 H10 s10 e10 => ?_⟩
    obtain ⟨mm, ww, emm, pmm, lww, hww⟩ : ∃ (mm : List Addr) (ww : List (Int × Int)), (List.replicate (if bb = true then 1 else 0 : Int).toNat ([m].map V.ref)).flatten = mm.map V.ref ∧ (∀ {H' : Hp}, Pairs H' [m] [(lo, lo + 1 + x)] → Pairs H' mm ww) ∧ ww.length ≤ 1 ∧ ∀ s ∈ ww, In6 s := by
      cases bb with
      | true => exact ⟨[m], [(lo, lo + 1 + x)], rfl, fun p => p, Nat.le_refl _, fun s hs => by rw [List.mem_singleton.mp hs]; exact i6⟩
      | false => exact ⟨[], [], rfl, fun _ => .nil, Nat.zero_le _, (fun _ h => nomatch h)⟩
    rw [emm] at e10
    have lmm : mm.length ≤ 1 := by
      have := (pmm pm).1
      omega
    have s310 := s39.trans s10
    have s610 := ((s7.trans s8).trans s9).trans s10
    refine ⟨p6, p10, _, _, rfl, rfl, Same.tupq s610 e6, e10, ?_, fun p11 H11 s11 e11 => ?_⟩
    · rw [List.length_map, List.length_map, List.length_drop]
      exact Nat.le_of_lt (small1000 (by omega))
    rw [← List.map_append] at e11
    have s311 := s310.trans s11
    have hdw : ∀ s ∈ sw.drop 1, In6 s := fun s hs => hw s (List.mem_of_mem_drop hs)
    have g11 : Good6 K H11 p11 := by
      refine ⟨_, sw.drop 1 ++ ww, e11, (dropP (pp3.same s311)).app (pmm (pm.same s311)), ?_, ?_⟩
      · rw [List.length_append, List.length_drop]
        omega
      · intro s hs
        rcases List.mem_append.mp hs with hs | hs
        · exact hdw s hs
        · exact hww s hs
    refine ⟨by show 2 ≤ sizeLine; decide, fun L12 n12 => ?_⟩
    have s12 := same_upd (o := .lst [.ref p5, .ref p11]) n12
    have e12 : (upd H11 L12 (.lst [.ref p5, .ref p11])) L12 = some (.lst ([p5, p11].map V.ref)) := upd_same
    generalize upd H11 L12 (.lst [.ref p5, .ref p11]) = H12 at s12 e12
    have s312 := s311.trans s12
    have s512 : Same H5 H12 := (((s6.trans s610).trans s11).trans s12)
    -- the last
    refine ⟨.ref L12, rfl, .ref b, rfl, 1, rfl, b, _, rfl, SqT.of (s312 _ _ eb3), fun p13 H13 s13 e13 => ?_⟩
    rw [cutf] at e13
    have s313 := s312.trans s13
    have g13 : Good6 K H13 p13 := ⟨_, sw.drop 1, e13, dropP (pp3.same s313), by rw [List.length_drop]; omega, hdw⟩
    refine ⟨by show 1 ≤ sizeLine; decide, fun L14 n14 => ?_⟩
    have s14 := same_upd (o := .lst [.ref p13]) n14
    have e14 : (upd H13 L14 (.lst [.ref p13])) L14 = some (.lst ([p13].map V.ref)) := upd_same
    generalize upd H13 L14 (.lst [.ref p13]) = H14 at s14 e14
    have s314 := s313.trans s14
    refine ⟨.ref b, rfl, by show 0 ≤ sizeLine; decide, fun t15 n15 => ?_⟩
    have s15 := same_upd (o := .tup []) n15
    refine ⟨.tuple (dTups (swInts sw)), .tuple [], .tup (SqT.of (s15 _ _ (s314 _ _ eb3))) (pp3.same (s314.trans s15)).tups.dp, .tup (.inl (.inl upd_same)) .nil, shaped_tt _, rfl, ?_⟩
    generalize (!PyData.eqv (.tuple (dTups (swInts sw))) (.tuple [])) = cc
    generalize upd H14 t15 (.tup []) = H15 at s15
    refine .inr ⟨cc, rfl, ?_⟩
    refine ⟨L14, _, _, rfl, rfl, s15 _ _ e14, by split <;> decide, by split <;> decide, ?_, fun L16 n16 => ?_⟩
    · refine Nat.le_of_lt (small1000 ?_)
      cases cc with
      | true =>
        show 1 * 1 ≤ 1000
        decide
      | false =>
        show 1 * 0 ≤ 1000
        decide
    have s16 := same_upd (o := .lst (List.replicate (if cc = true then 1 else 0 : Int).toNat ([p13].map V.ref)).flatten) n16
    obtain ⟨rr, err, hrr, lrr⟩ : ∃ rr : List Addr, (List.replicate (if cc = true then 1 else 0 : Int).toNat ([p13].map V.ref)).flatten = rr.map V.ref ∧ (∀ b ∈ rr, b = p13) ∧ rr.length ≤ 1 := by
      cases cc with
      | true => exact ⟨[p13], rfl, fun b hb => List.mem_singleton.mp hb, Nat.le_refl _⟩
      | false => exact ⟨[], rfl, (fun _ h => nomatch h), Nat.zero_le _⟩
    rw [err] at s16 ⊢
    refine ⟨L12, L16, _, _, rfl, rfl, s16 _ _ (s15 _ _ (s14 _ _ (s13 _ _ e12))), upd_same, ?_, fun L17 n17 => ?_⟩
    · rw [List.length_map, List.length_map]
      exact Nat.le_of_lt (small1000 (by show 2 + rr.length ≤ 1000; omega))
    have s17 := same_upd (o := .lst ([p5, p11].map V.ref ++ rr.map V.ref)) n17
    have sZ := (s15.trans s16).trans s17
    have sY := s14.trans sZ
    refine q L17 _ ([p5, p11] ++ rr) (D3.same (s313.trans sY)) (kH3.trans (Keep.same (s313.trans sY))) ?_ ?_
    · rw [upd_same, List.map_append]
    · intro b' hb
      rcases List.mem_append.mp hb with hb | hb
      · have : b' = p5 ∨ b' = p11 := by simpa using hb
        rcases this with rfl | rfl
        · exact g5.same ((s512.trans s13).trans sY)
        · exact g11.same ((s12.trans s13).trans sY)
      · rw [hrr b' hb]
        exact g13.same sY
end
end R16

set_option Elab.async false
set_option linter.all false
set_option maxRecDepth 100000
namespace R16
open PySem PySem.Spec PyProof.Rows L2 RS
/-! ### the law -/
abbrev sLaw : Stmt := topS 20
abbrev nLaw : List Str := ["_law_script", "_law_deck_here", "_law_turn", "_law_ring", "_law_swings", "_law_numbers_here", "_law_other", "_law_low", "_law_high", "_law_wider", "_law_k"]
theorem scLaw : FnScope nLaw ["_law_script"] (defScope sLaw) := ⟨rfl, rfl, rfl, by decide +kernel, rfl, by decide +kernel, by decide +kernel⟩
section
variable {P : Program} {w : World} {K : PySem.W.Frag} {mg : Str → Option Value} {base : Heap}
def spLaw (K : PySem.W.Frag) : Sp := fun vs H Q _ => ∃ (a : Addr) (ns : List Int), vs = [.ref a] ∧ SqL K H a (ns.map V.int) ∧ ∀ H', Q (.bl true) H'
set_option maxHeartbeats 2000000 in
theorem ok_law {f fK fD fS fE fF fV fW fT fI fN fA fP fB fC fH fM fO : Addr} {fd fdK fdD fdS fdE fdF fdV fdW fdT fdI fdN fdA fdP fdB fdC fdH fdM fdO : FuncData} (F : Fun K "law" "law" sLaw f fd)
    (FK : Fun K "_law_deck" "_law_deck" sDeck fK fdK) (bK : Binds K fdK ["_law_script"] []) (gK : mg "_law_deck" = some (.ref fK))
    (FD : Fun K "_law_draw" "_law_draw" sDraw fD fdD) (bD : Binds K fdD ["_law_deck_here", "_law_bound"] []) (gD : mg "_law_draw" = some (.ref fD))
    (FS : Fun K "swings_of" "swings_of" sSw fS fdS) (bS : Binds K fdS ["ring"] []) (gS : mg "swings_of" = some (.ref fS))
    (FE : Fun K "find_removal" "find_removal" sFindRem fE fdE) (bE : Binds K fdE ["ring"] []) (gE : mg "find_removal" = some (.ref fE))
    (FF : Fun K "flattest_pair" "flattest_pair" sFlat fF fdF) (bF : Binds K fdF ["ring", "left"] []) (gF : mg "flattest_pair" = some (.ref fF))
    (FV : Fun K "valley_first" "valley_first" sVal fV fdV) (bV : Binds K fdV ["ring", "turn", "neighbour"] []) (gV : mg "valley_first" = some (.ref fV))
    (FW : Fun K "without_pair" "without_pair" sWo fW fdW) (bW : Binds K fdW ["left", "pair"] []) (gW : mg "without_pair" = some (.ref fW))
    (FT : Fun K "turning_places" "turning_places" sTurns fT fdT) (bT : Binds K fdT ["ring"] []) (gT : mg "turning_places" = some (.ref fT))
    (FI : Fun K "is_turn" "is_turn" sIsTurn fI fdI) (bI : Binds K fdI ["ring", "place"] []) (gI : mg "is_turn" = some (.ref fI))
    (FN : Fun K "next_other_height" "next_other_height" sNext fN fdN) (bN : Binds K fdN ["ring", "place"] []) (gN : mg "next_other_height" = some (.ref fN))
    (FA : Fun K "heights_after" "heights_after" sAfter fA fdA) (bA : Binds K fdA ["ring", "place"] []) (gA : mg "heights_after" = some (.ref fA))
    (FP : Fun K "passage_places" "passage_places" sPass fP fdP) (bP : Binds K fdP ["ring", "low", "high"] []) (gP : mg "passage_places" = some (.ref fP))
    (FB : Fun K "begins_passage" "begins_passage" sBegins fB fdB) (bB : Binds K fdB ["ring", "place", "low", "high"] []) (gB : mg "begins_passage" = some (.ref fB))
    (FC : Fun K "count_passages" "count_passages" sCount fC fdC) (bC : Binds K fdC ["ring", "low", "high"] []) (gC : mg "count_passages" = some (.ref fC))
    (FH : Fun K "_law_thresholds" "_law_thresholds" sThr fH fdH) (bH : Binds K fdH [] []) (gH : mg "_law_thresholds" = some (.ref fH))
    (FM : Fun K "_law_numbers" "_law_numbers" sNum fM fdM) (bM : Binds K fdM ["_law_swings"] []) (gM : mg "_law_numbers" = some (.ref fM))
    (FO : Fun K "_law_others" "_law_others" sOth fO fdO) (bO : Binds K fdO ["_law_deck_here", "_law_swings"] []) (gO : mg "_law_others" = some (.ref fO))
    (ml : mg "len" = none) (mr : mg "range" = none) (mt : mg "tuple" = none) (ma : mg "abs" = none) (me : mg "enumerate" = none)
    (mx : mg "max" = none) (mn : mg "min" = none) (mso : mg "sorted" = none) (mi : mg "int" = none) (mp : mg "repr" = none) (mli : mg "list" = none) :
    FnG P w K mg base CX0 7 f fd ["_law_script"] (spLaw K) := by
  have GK : FnOk P w K mg base CX0 6 fK fdK ["_law_script"] (spDeck K) := ok_deck FK ma
  have GD : FnOk P w K mg base CX0 6 fD fdD ["_law_deck_here", "_law_bound"] spDraw := ok_draw FD ml mx
  have GS : FnOk P w K mg base CX0 6 fS fdS ["ring"] (spSw K) := ok_sw FS FE bE gE FF bF gF FV bV gV FW bW gW FT bT gT FI bI gI FN bN gN FA bA gA ml mr mt ma me mn mso
  have GC : FnOk P w K mg base CX0 6 fC fdC ["ring", "low", "high"] (spCount K) := ok_count FC FP bP gP FB bB gB FA bA gA ml mr mt
  have GH : FnOk P w K mg base CX0 6 fH fdH [] spThr := ok_thr FH mr
  have GM : FnOk P w K mg base CX0 6 fM fdM ["_law_swings"] (spNum K) := ok_num FM FH bH gH mr ml
  have GO : FnOk P w K mg base CX0 6 fO fdO ["_law_deck_here", "_law_swings"] (spOth K) := ok_oth FO FD bD gD ml mx mi
  refine okG F scLaw (fun vs H Q E h => ?_) (fun cdv A outer s H vs Q E hgd hr h => ?_)
  · obtain ⟨a, ns, rfl, _⟩ := h
    rfl
  · obtain ⟨a, ns, rfl, hS, q⟩ := h
    refine ⟨_, pss_cons (ps_set (i := 1) scLaw.nd rfl (.inr rfl) (pe_call GK hr (by rfl) gK FK.kp bK .nil pass0 (pa_cons (pv 0) pa_nil)))
      (pss_cons (ps_for PassesOwn.never rfl (pi_range1 (by rfl) mr (pa_cons pe_int pa_nil)) (pg_name (i := 2) scLaw.nd rfl (.inl rfl))
        (pss_cons (ps_set (i := 3) scLaw.nd rfl (.inr rfl) (pe_callTy call_tuple_of (by rfl) mt (by decide +kernel) (pa_cons
          (pe_lc (own := [("_law_k", 10)]) (g := gName 10) (tt := tYes) (by rfl) scLaw.nd (pi_range1 (by rfl) mr (pa_cons (pe_op op_add pe_int (pe_call GD hr (by rfl) gD FD.kp bD .nil pass0 (pa_cons (pv 1) (pa_cons pe_int pa_nil)))) pa_nil))
            (blkOk_by (own := [("_law_k", 10)]) (N := nLaw) (sc := defScope sLaw) (by decide +kernel))
            (fun _ _ _ _ _ => pg_name (i := 10) scLaw.nd rfl (Or.inl rfl)) (fun _ _ _ _ _ => pts_nil)
            (fun _ _ _ _ _ => pe_call GD hr (by rfl) gD FD.kp bD .nil pass0 (pa_cons (pv 1) (pa_cons pe_int pa_nil)))) pa_nil)))
        (pss_cons (ps_set (i := 4) scLaw.nd rfl (.inl rfl) (pe_call GS hr (by rfl) gS FS.kp bS .nil pass0 (pa_cons (pv 3) pa_nil)))
        (pss_cons (ps_setLc (i := 5) (own := [("_law_low", 7), ("_law_high", 8)]) (g := gTup K 2 (gCons (gName 7) (gCons (gName 8) gNil))) (tt := tYes) (by rfl) scLaw.nd rfl rfl (sw_true rfl rfl rfl (by decide +kernel))
            (pi_list (pe_call0 GH hr (by rfl) gH FH.kp bH .nil pass0))
            (blkOk_by (own := [("_law_low", 7), ("_law_high", 8)]) (N := nLaw) (sc := defScope sLaw) (by decide +kernel))
            (fun _ _ _ _ _ => pg_tup rfl (pgs_cons (pg_name (i := 7) scLaw.nd rfl (Or.inl rfl)) (pgs_cons (pg_name (i := 8) scLaw.nd rfl (Or.inl rfl)) pgs_nil)))
            (fun _ _ _ _ _ => pts_nil)
            (fun _ _ _ _ _ => pe_call GC hr (by rfl) gC FC.kp bC .nil pass0 (pa_cons (pv 3) (pa_cons (pv 7) (pa_cons (pv 8) pa_nil)))))
        (pss_cons (ps_if (pt_cmpR op_ne (pe_callB (call_repr hgd hr.units) (by rfl) mp boot_repr (pa_cons (pv 5) pa_nil)) (pe_callB (call_repr hgd hr.units) (by rfl) mp boot_repr (pa_cons (pe_call GM hr (by rfl) gM FM.kp bM .nil pass0 (pa_cons (pv 4) pa_nil)) pa_nil)) (nomark _))
          (pss_one (ps_ret pe_bl)) pss_nil)
        (pss_cons (ps_for PassesOwn.never rfl (pi_list (pe_call GO hr (by rfl) gO FO.kp bO .nil pass0 (pa_cons (pv 1) (pa_cons (pv 4) pa_nil)))) (pg_name (i := 6) scLaw.nd rfl (.inl rfl))
          (pss_one (ps_if (PW.pt (pw_and (pt_cmpR (op_neD hr.units) (pe_callB cr_sortedPT (by rfl) mso (by decide +kernel) (pa_cons (pv 6) pa_nil)) (pe_callTy call_list_of (by rfl) mli (by decide +kernel) (pa_cons (pv 4) pa_nil)) (nomark _))
              (pw_and1 (pt_cmpR (op_eqD hr.units) (pe_call GM hr (by rfl) gM FM.kp bM .nil pass0 (pa_cons (pv 6) pa_nil)) (pv 5) (nomark _)))))
            (pss_one (ps_ret pe_bl)) pss_nil)))
        (pss_one (ps_for PassesOwn.never rfl (pi_list
            (pe_lc (own := [("_law_low", 7), ("_law_high", 8)]) (g := gTup K 2 (gCons (gName 7) (gCons (gName 8) gNil))) (by rfl) scLaw.nd (pi_list (pe_call0 GH hr (by rfl) gH FH.kp bH .nil pass0))
              (blkOk_by (own := [("_law_low", 7), ("_law_high", 8)]) (N := nLaw) (sc := defScope sLaw) (by decide +kernel))
              (fun _ _ _ _ _ => pg_tup rfl (pgs_cons (pg_name (i := 7) scLaw.nd rfl (Or.inl rfl)) (pgs_cons (pg_name (i := 8) scLaw.nd rfl (Or.inl rfl)) pgs_nil)))
              (fun _ _ _ _ _ => pts_one (PW.pt (pw_and (pt_cmpR op_le pe_int (pv 7) (nomark _)) (pw_and1 (pt_cmpR op_le (pv 8) pe_int (nomark _))))))
              (fun _ _ _ _ _ => pe_tup (pa_cons (pv 7) (pa_cons (pv 8) pa_nil)))))
            (pg_tup (by rfl) (pgs_cons (pg_name (i := 7) scLaw.nd rfl (.inl rfl)) (pgs_cons (pg_name (i := 8) scLaw.nd rfl (.inl rfl)) pgs_nil)))
          (pss_cons (ps_set (i := 9) scLaw.nd rfl (.inl rfl) (pe_lst (pa_cons (pe_call GC hr (by rfl) gC FC.kp bC .nil pass0 (pa_cons (pv 3) (pa_cons (pe_op op_sub (pv 7) pe_int) (pa_cons (pv 8) pa_nil))))
              (pa_cons (pe_call GC hr (by rfl) gC FC.kp bC .nil pass0 (pa_cons (pv 3) (pa_cons (pv 7) (pa_cons (pe_op op_add (pv 8) pe_int) pa_nil)))) pa_nil))))
          (pss_one (ps_if (pt_cmpR op_gt (pe_callB (cr_max rfl) (by rfl) mx boot_max (pa_cons (pv 9) pa_nil)) (pe_call GC hr (by rfl) gC FC.kp bC .nil pass0 (pa_cons (pv 3) (pa_cons (pv 7) (pa_cons (pv 8) pa_nil)))) (nomark _))
            (pss_one (ps_ret pe_bl)) pss_nil)))))))))))
      (pss_one (ps_ret pe_bl))), ?_⟩
    -- the deck
    refine ⟨.ref a, rfl, a, ns, rfl, hS, fun H1 d l sm nd nl D => ?_⟩
    refine ⟨6, rfl, by decide, by decide, ?_⟩
    refine for_range (lo := 0) (n := 6) (fun i σ H2 => ∃ (y2 y3 y4 y5 y6 y7 y8 y9 y10 : Option V) (n2 : Int), σ = [some (.ref a), some (.ref d), y2, y3, y4, y5, y6, y7, y8, y9, y10] ∧ n2 ≤ 100 * (i : Int) ∧ Deck H2 d l n2) ?_ ?_ ?_
    · exact ⟨none, none, none, none, none, none, none, none, none, 0, rfl, by decide, D⟩
    · rintro i σ H2 hi ⟨y2, y3, y4, y5, y6, y7, y8, y9, y10, n2, rfl, hn2, D2⟩
      -- the ring
      refine ⟨.ref d, rfl, d, l, n2, 10, rfl, D2, by omega, by decide, by decide, fun H3 v v0 v1 D3 k3 => ?_⟩
      refine ⟨_, _, rfl, rfl, 1 + v, rfl, by omega, by omega, fun DL nDL => ?_⟩
      have nDLd := D3.free_ne nDL
      refine lc_range (lo := 0) (n := (1 + v).toNat) (fun j H4 => ∃ as : List Int, Deck H4 d l (n2 + 1 + j) ∧ H4 DL = some (.lst (as.map V.int)) ∧ as.length = j ∧ ∀ x ∈ as, 0 ≤ x ∧ x ≤ 6) ?_ ?_ ?_
      · exact ⟨[], by
          have := D3.same (same_upd (o := .lst []) nDL)
          rw [show n2 + 1 + ((0 : Nat) : Int) = n2 + 1 by omega]
          exact this, upd_same, rfl, (fun _ h => nomatch h)⟩
      · rintro j H4 hj ⟨as, D4, e4, la, ha⟩
        refine ⟨rfl, .ref d, rfl, d, l, n2 + 1 + j, 7, rfl, D4, by omega, by decide, by decide, fun H5 x x0 x1 D5 k5 => ?_⟩
        have e5 : H5 DL = some (.lst (as.map V.int)) := k5 DL _ nDLd.1 nDLd.2 e4
        refine ⟨_, e5, ?_, as ++ [x], ?_, ?_, ?_, ?_⟩
        · rw [List.length_map, la]
          exact small1000 (by omega)
        · have := D5.keep (H' := upd H5 DL (.lst (as.map V.int ++ [.int x]))) (upd_ne nDLd.1.symm) (upd_ne nDLd.2.symm)
          rw [show n2 + 1 + ((j + 1 : Nat) : Int) = n2 + 1 + (j : Int) + 1 by omega]
          exact this
        · rw [upd_same, List.map_append]
          rfl
        · rw [List.length_append, la]
          rfl
        · intro z hz
          rcases List.mem_append.mp hz with hz | hz
          · exact ha z hz
          · rw [List.mem_singleton.mp hz]
            exact ⟨x0, by omega⟩
      rintro H4 ⟨hs, D4, e4, la, hb⟩
      have l1 : 1 ≤ hs.length := by omega
      have l10 : hs.length ≤ 10 := by omega
      have hn4 : n2 + 1 + (((1 + v).toNat : Nat) : Int) ≤ 100 * (i : Int) + 11 := by omega
      generalize n2 + 1 + (((1 + v).toNat : Nat) : Int) = n4 at D4 hn4
      refine ⟨DL, _, rfl, .inl ⟨SqL.of e4, fun r nr => ?_⟩⟩
      have sr := same_upd (o := .tup (hs.map V.int)) nr
      have er : (upd H4 r (.tup (hs.map V.int))) r = some (.tup (hs.map V.int)) := upd_same
      generalize upd H4 r (.tup (hs.map V.int)) = H5 at sr er
      have D5 := D4.same sr
      -- swings
      refine ⟨.ref r, rfl, r, hs, rfl, SqT.of er, by omega, fun b H6 ps s6 n6 eb pp => ?_⟩
      have lsw : (swingsOf hs).length ≤ 5 := by
        have := swings_len hs
        have := turns_len hs
        omega
      have in6 : ∀ s ∈ swingsOf hs, In6 s := by
        intro s hs'
        obtain ⟨m1, m2, m3⟩ := swings_mem s hs'
        exact ⟨(hb _ m1).1, m3, (hb _ m2).2⟩
      have er6 := s6 _ _ er
      -- the numbers
      refine ⟨rfl, fun pt H7 ts s7 npt et pt7 => ?_⟩
      refine ⟨pt, rfl, ⟨_, SqL.of et⟩, fun DN nDN => ?_⟩
      have er7 := s7 _ _ er6
      refine lc_list (K := K) (a := pt) (xs := ts.map V.ref) (fun j H8 => Same H7 H8 ∧ H8 DN = some (.lst (((thr.take j).map fun t => ((swCount (swingsOf hs) t.1 t.2 : Nat) : Int)).map V.int))) ?_ ?_ ?_ ?_
      · exact ⟨same_upd nDN, upd_same⟩
      · rintro j H8 _ ⟨s8, _⟩
        exact SqL.of (s8 _ _ et)
      · rintro j x H8 hx ⟨s8, e8⟩
        obtain ⟨t, gt, rfl⟩ := get_map_ref hx
        have hj : j < thr.length := by
          rw [← pt7.1]
          exact (List.getElem?_eq_some_iff.mp gt).1
        obtain ⟨th, gth⟩ : ∃ th, thr[j]? = some th := ⟨_, List.getElem?_eq_getElem hj⟩
        have ett := (pt7.same s8).2 j t th gt gth
        have hlt : th.1 < th.2 := (thr_mem.mp (List.mem_of_getElem? gth)).2.1
        refine ⟨t, _, rfl, SqT.of ett, rfl, _, _, rfl, _, _, rfl, rfl, rfl, ?_⟩
        refine ⟨.ref r, rfl, _, rfl, _, rfl, r, hs, th.1, th.2, rfl, SqT.of (s8 _ _ er7), by omega, hlt, fun H9 s9 => ?_⟩
        rw [← swings_count hlt]
        refine ⟨_, s9 _ _ e8, ?_, ?_, ?_⟩
        · rw [List.length_map, List.length_map, List.length_take, thr_len]
          exact small1000 (by omega)
        · intro b' o z
          rw [upd_ne (ne_of_none z nDN)]
          exact s9 _ _ (s8 _ _ z)
        · rw [upd_same]
          exact congrArg (fun z => some (HO.lst z)) (take_map_succ (f := fun t : Int × Int => ((swCount (swingsOf hs) t.1 t.2 : Nat) : Int)) gth)
      rintro H8 ⟨s8, e8⟩
      rw [List.length_map, pt7.1, List.take_length] at e8
      have e8' : H8 DN = some (.lst ((numsOf16 (swingsOf hs)).map V.int)) := e8
      have fn : Fine (.list (dInts (numsOf16 (swingsOf hs)))) := fine_lst (nums_big (by omega)) (by rw [nums_len]; omega)
      have s68 := s7.trans s8
      have eb8 := s68 _ _ eb
      have pp8 := pp.same s68
      refine ⟨.ref DN, rfl, .ref DN, _, rfl, .lst (SqL.of e8') (dpInts _), fn, ?_⟩
      refine ⟨.ref b, rfl, b, ps, swingsOf hs, rfl, SqT.of eb8, pp8, by omega, fun pn H9 s9 nn en => ?_⟩
      refine ⟨.ref pn, _, rfl, .lst (SqL.of en) (dpInts _), fn, rfl, _, rfl, iteNS rfl ?_⟩
      -- the others
      have eb9 := s9 _ _ eb8
      have pp9 := pp8.same s9
      have e89 := s9 _ _ e8'
      have er9 := s9 _ _ (s8 _ _ er7)
      have D9 := D5.same ((s6.trans s68).trans s9)
      refine ⟨.ref d, rfl, .ref b, rfl, d, l, b, n4, ps, swingsOf hs, rfl, D9, by omega, eb9, pp9, by omega, in6, fun po H10 bs D10 k10 eo gs => ?_⟩
      have eb10 := k10.tup D9 eb9
      have pp10 := keep_pairs k10 D9 pp9
      have er10 := k10.tup D9 er9
      have neDN : DN ≠ d ∧ DN ≠ l := (D5.same (s6.trans s7)).free_ne nDN
      have e10 : H10 DN = some (.lst ((numsOf16 (swingsOf hs)).map V.int)) := k10 DN _ neDN.1 neDN.2 e89
      refine ⟨po, rfl, ⟨_, SqL.of eo⟩, ?_⟩
      refine for_list (K := K) (a := po) (xs := bs.map V.ref) (fun j σ H11 => ∃ (y6 y7 y8 y9 y10 : Option V), σ = [some (.ref a), some (.ref d), some (.int (0 + (i : Nat))), some (.ref r), some (.ref b), some (.ref DN), y6, y7, y8, y9, y10] ∧ Same H10 H11) ?_ ?_ ?_ ?_
      · exact ⟨_, _, _, _, _, rfl, Same.refl _⟩
      · rintro j σ H11 _ ⟨_, _, _, _, _, _, s11⟩
        exact .inl (.inl (s11 _ _ eo))
      · rintro j x σ H11 hx ⟨z6, z7, z8, z9, z10, rfl, s11⟩
        obtain ⟨bo, go, rfl⟩ := get_map_ref hx
        obtain ⟨qs, sw', eq, pq, lq, hq⟩ := (gs bo (List.mem_of_getElem? go)).same s11
        refine ⟨.ref bo, rfl, bo, _, keyV H11, rfl, eq, pq.mem, fun ys L2 srt stb nL2 => ?_⟩
        obtain ⟨ps2, rfl, pp2⟩ := pq.sorted srt stb.perm
        have s12 := same_upd (o := .lst (ps2.map V.ref)) nL2
        have e12 : (upd H11 L2 (.lst (ps2.map V.ref))) L2 = some (.lst (ps2.map V.ref)) := upd_same
        generalize upd H11 L2 (.lst (ps2.map V.ref)) = H12 at s12 e12
        have s1012 := s11.trans s12
        refine ⟨.ref b, rfl, b, _, rfl, .inr (SqT.of (s1012 _ _ eb10)), fun L3 nL3 => ?_⟩
        have s13 := same_upd (o := .lst (ps.map V.ref)) nL3
        have e13 : (upd H12 L3 (.lst (ps.map V.ref))) L3 = some (.lst (ps.map V.ref)) := upd_same
        generalize upd H12 L3 (.lst (ps.map V.ref)) = H13 at s13 e13
        have s1013 := s1012.trans s13
        refine ⟨.list (dTups (swInts (sw'.mergeSort lexLe))), .list (dTups (swInts (swingsOf hs))), .lst (SqL.of (s13 _ _ e12)) (pp2.same (s12.trans s13)).tups.dp, .lst (SqL.of e13) (pp10.same s1013).tups.dp, shaped_lt _, shaped_lt _, ?_⟩
        rw [eqv_lt]
        by_cases hm : sw'.mergeSort lexLe = swingsOf hs
        · rw [decide_eq_true hm]
          exact ⟨false, rfl, iteF ⟨_, _, _, _, _, rfl, s1013⟩⟩
        · rw [decide_eq_false hm]
          refine ⟨true, rfl, iteT ?_⟩
          refine ⟨.ref bo, rfl, bo, qs, sw', rfl, Same.tupq (s12.trans s13) eq, pq.same (s12.trans s13), by omega, fun p14 H14 s14 n14 e14 => ?_⟩
          refine ⟨.ref DN, rfl, .list (dInts (numsOf16 sw')), .list (dInts (numsOf16 (swingsOf hs))), .lst (SqL.of e14) (dpInts _), .lst (SqL.of ((s1013.trans s14) _ _ e10)) (dpInts _), shaped_li _, shaped_li _, ?_⟩
          rw [eqv_li, decide_eq_false (fun z => hm (merge_of_perm (nums_perm hq in6 z)))]
          exact ⟨false, rfl, iteF ⟨_, _, _, _, _, rfl, s1013.trans s14⟩⟩
      rintro σ H11 ⟨z6, z7, z8, z9, z10, rfl, s11⟩
      have er11 := s11 _ _ er10
      have D11 := D10.same s11
      -- thresholds farther apart
      refine ⟨rfl, fun pt2 H12 ts2 s12 npt2 et2 ptt => ?_⟩
      refine ⟨pt2, rfl, ⟨_, SqL.of et2⟩, fun DW nDW => ?_⟩
      refine lc_list (K := K) (a := pt2) (xs := ts2.map V.ref) (fun j H13 => Same H12 H13 ∧ ∃ (qs : List Addr) (ww : List (Int × Int)), H13 DW = some (.lst (qs.map V.ref)) ∧ Pairs H13 qs ww ∧ ww.length ≤ j ∧ ∀ t ∈ ww, t.1 < t.2) ?_ ?_ ?_ ?_
      · exact ⟨same_upd nDW, [], [], upd_same, .nil, Nat.le_refl _, (fun _ h => nomatch h)⟩
      · rintro j H13 _ ⟨s13, _⟩
        exact SqL.of (s13 _ _ et2)
      · rintro j x H13 hx ⟨s13, qs, ww, e13, pq, lw, hw⟩
        obtain ⟨t, gt, rfl⟩ := get_map_ref hx
        have hj : j < thr.length := by
          rw [← ptt.1]
          exact (List.getElem?_eq_some_iff.mp gt).1
        obtain ⟨th, gth⟩ : ∃ th, thr[j]? = some th := ⟨_, List.getElem?_eq_getElem hj⟩
        have ett := (ptt.same s13).2 j t th gt gth
        have hlt : th.1 < th.2 := (thr_mem.mp (List.mem_of_getElem? gth)).2.1
        have hj45 : j < 45 := by
          rw [thr_len] at hj
          exact hj
        refine ⟨t, _, rfl, SqT.of ett, rfl, _, _, rfl, _, _, rfl, rfl, rfl, ?_⟩
        refine ⟨_, rfl, _, _, rfl, rfl, _, rfl, ite2 (fun e => ?_) (fun e => ?_)⟩
        · refine ⟨_, rfl, _, _, rfl, rfl, _, rfl, ite2 (fun e2 => ?_) (fun e2 => ?_)⟩
          · refine ⟨_, rfl, _, rfl, by show 2 ≤ sizeLine; decide, fun T nT => ?_⟩
            have sT := same_upd (o := .tup [.int th.1, .int th.2]) nT
            have lqs := pq.1
            refine ⟨_, sT _ _ e13, ?_, ?_, qs ++ [T], ww ++ [th], ?_, ?_, ?_, ?_⟩
            · rw [List.length_map]
              exact small1000 (by omega)
            · intro b' o z
              rw [upd_ne (ne_of_none z nDW)]
              exact sT _ _ (s13 _ _ z)
            · rw [upd_same, List.map_append]
              rfl
            · exact ((pq.same sT).snoc (s := th) upd_same).updL (sT _ _ e13)
            · rw [List.length_append, List.length_singleton]
              omega
            · intro t' ht'
              rcases List.mem_append.mp ht' with h | h
              · exact hw t' h
              · rw [List.mem_singleton.mp h]
                exact hlt
          · exact ⟨s13, qs, ww, e13, pq, by omega, hw⟩
        · exact ⟨s13, qs, ww, e13, pq, by omega, hw⟩
      rintro H13 ⟨s13, qs, ww, e13, pq, lw, hw⟩
      have s1113 := s12.trans s13
      refine ⟨DW, rfl, ⟨_, SqL.of e13⟩, ?_⟩
      refine for_list (K := K) (a := DW) (xs := qs.map V.ref) (fun j σ H14 => ∃ (y6 y7 y8 y9 y10 : Option V), σ = [some (.ref a), some (.ref d), some (.int (0 + (i : Nat))), some (.ref r), some (.ref b), some (.ref DN), y6, y7, y8, y9, y10] ∧ Same H13 H14) ?_ ?_ ?_ ?_
      · exact ⟨_, _, _, _, _, rfl, Same.refl _⟩
      · rintro j σ H14 _ ⟨_, _, _, _, _, _, s14⟩
        exact .inl (.inl (s14 _ _ e13))
      · rintro j x σ H14 hx ⟨w6, w7, w8, w9, w10, rfl, s14⟩
        obtain ⟨t, gt, rfl⟩ := get_map_ref hx
        have hj : j < ww.length := by
          rw [← pq.1]
          exact (List.getElem?_eq_some_iff.mp gt).1
        obtain ⟨th, gth⟩ : ∃ th, ww[j]? = some th := ⟨_, List.getElem?_eq_getElem hj⟩
        have ett := (pq.same s14).2 j t th gt gth
        have hlt : th.1 < th.2 := hw th (List.mem_of_getElem? gth)
        have er14 := s14 _ _ (s1113 _ _ er11)
        refine ⟨t, _, rfl, SqT.of ett, rfl, _, _, rfl, _, _, rfl, rfl, ?_⟩
        refine ⟨.ref r, rfl, _, rfl, _, _, rfl, rfl, _, rfl, r, hs, th.1 - 1, th.2, rfl, SqT.of er14, by omega, by omega, fun H15 s15 => ?_⟩
        refine ⟨.ref r, rfl, _, rfl, _, rfl, _, _, rfl, rfl, r, hs, th.1, th.2 + 1, rfl, SqT.of (s15 _ _ er14), by omega, by omega, fun H16 s16 => ?_⟩
        refine ⟨by show 2 ≤ sizeLine; decide, fun LW nLW => ?_⟩
        have c1 := cyc_mono (hs := hs) hlt (show th.1 - 1 ≤ th.1 by omega) (Int.le_refl th.2)
        have c2 := cyc_mono (hs := hs) hlt (Int.le_refl th.1) (show th.2 ≤ th.2 + 1 by omega)
        generalize cyc (marks hs (th.1 - 1) th.2) = x1 at c1
        generalize cyc (marks hs th.1 (th.2 + 1)) = x2 at c2
        have s17 := same_upd (o := .lst [.int (x1 : Int), .int (x2 : Int)]) nLW
        have e17 : (upd H16 LW (.lst [.int (x1 : Int), .int (x2 : Int)])) LW = some (.lst ([(x1 : Int), (x2 : Int)].map V.int)) := upd_same
        refine ⟨.ref LW, rfl, LW, [(x1 : Int), (x2 : Int)], rfl, .inl (.inl e17), by show 0 < 2; decide, fun m hm _ => ?_⟩
        have hmc : m ≤ ((cyc (marks hs th.1 th.2) : Nat) : Int) := by
          have : m = (x1 : Int) ∨ m = (x2 : Int) := by simpa using hm
          omega
        have s1417 := (s15.trans s16).trans s17
        refine ⟨.ref r, rfl, _, rfl, _, rfl, r, hs, th.1, th.2, rfl, SqT.of (s1417 _ _ er14), by omega, hlt, fun H18 s18 => ?_⟩
        refine ⟨_, _, rfl, rfl, _, rfl, ite2 (fun e => ?_) (fun e => ?_)⟩
        · have := of_decide_eq_true e
          omega
        · exact ⟨_, _, _, _, _, rfl, (s14.trans s1417).trans s18⟩
      · rintro σ H14 ⟨w6, w7, w8, w9, w10, rfl, s14⟩
        exact ⟨_, _, _, _, _, _, _, _, _, n4 + 1 + 1, rfl, by omega, D11.same (s1113.trans s14)⟩
    · intro σ H2 hP
      exact q _
end
end R16

set_option Elab.async false
set_option linter.all false
set_option maxRecDepth 100000
namespace R16
open PySem PySem.Spec PyProof.Rows L2 RS
/-! ### the end -/
theorem all_mk {w : World} {K : PySem.W.Frag} {h : Heap} {mg : Str → Option Value} {fa : Addr} (X : K.In h) (G : h.Ns mainGlobals mg) (hfa : mg "law" = some (.ref fa))
    (dK : DefAt K "_law_deck" sDeck)
    (dD : DefAt K "_law_draw" sDraw)
    (dS : DefAt K "swings_of" sSw)
    (dE : DefAt K "find_removal" sFindRem)
    (dF : DefAt K "flattest_pair" sFlat)
    (dV : DefAt K "valley_first" sVal)
    (dW : DefAt K "without_pair" sWo)
    (dT : DefAt K "turning_places" sTurns)
    (dI : DefAt K "is_turn" sIsTurn)
    (dN : DefAt K "next_other_height" sNext)
    (dA : DefAt K "heights_after" sAfter)
    (dP : DefAt K "passage_places" sPass)
    (dB : DefAt K "begins_passage" sBegins)
    (dC : DefAt K "count_passages" sCount)
    (dH : DefAt K "_law_thresholds" sThr)
    (dM : DefAt K "_law_numbers" sNum)
    (dO : DefAt K "_law_others" sOth)
    (dL : DefAt K "law" sLaw)
    (z_len : PySem.W.nsIn K mainGlobals "len" = some none)
    (z_range : PySem.W.nsIn K mainGlobals "range" = some none)
    (z_tuple : PySem.W.nsIn K mainGlobals "tuple" = some none)
    (z_abs : PySem.W.nsIn K mainGlobals "abs" = some none)
    (z_enumerate : PySem.W.nsIn K mainGlobals "enumerate" = some none)
    (z_max : PySem.W.nsIn K mainGlobals "max" = some none)
    (z_min : PySem.W.nsIn K mainGlobals "min" = some none)
    (z_sorted : PySem.W.nsIn K mainGlobals "sorted" = some none)
    (z_int : PySem.W.nsIn K mainGlobals "int" = some none)
    (z_repr : PySem.W.nsIn K mainGlobals "repr" = some none)
    (z_list : PySem.W.nsIn K mainGlobals "list" = some none)
    : ∃ fd : FuncData, (∀ (s : Shared) (u : Value), BindsTo s fd ⟨[u], []⟩ [("_law_script", u)]) ∧
      ∀ base : Heap, K.In base → base.Ns mainGlobals mg → FnG PySem.Challenge.rw_ringswings_k16_whole_passages_and_swings.prog w K mg base CX0 7 fa fd ["_law_script"] (spLaw K) := by
  obtain ⟨fK, fdK, FK, gK, _⟩ := dK.get X G
  have bK := FK.binds (ps := ["_law_script"]) fun _ _ _ _ _ _ us hl => match us, hl with | [_], _ => rfl
  obtain ⟨fD, fdD, FD, gD, _⟩ := dD.get X G
  have bD := FD.binds (ps := ["_law_deck_here", "_law_bound"]) fun _ _ _ _ _ _ us hl => match us, hl with | [_, _], _ => rfl
  obtain ⟨fS, fdS, FS, gS, _⟩ := dS.get X G
  have bS := FS.binds (ps := ["ring"]) fun _ _ _ _ _ _ us hl => match us, hl with | [_], _ => rfl
  obtain ⟨fE, fdE, FE, gE, _⟩ := dE.get X G
  have bE := FE.binds (ps := ["ring"]) fun _ _ _ _ _ _ us hl => match us, hl with | [_], _ => rfl
  obtain ⟨fF, fdF, FF, gF, _⟩ := dF.get X G
  have bF := FF.binds (ps := ["ring", "left"]) fun _ _ _ _ _ _ us hl => match us, hl with | [_, _], _ => rfl
  obtain ⟨fV, fdV, FV, gV, _⟩ := dV.get X G
  have bV := FV.binds (ps := ["ring", "turn", "neighbour"]) fun _ _ _ _ _ _ us hl => match us, hl with | [_, _, _], _ => rfl
  obtain ⟨fW, fdW, FW, gW, _⟩ := dW.get X G
  have bW := FW.binds (ps := ["left", "pair"]) fun _ _ _ _ _ _ us hl => match us, hl with | [_, _], _ => rfl
  obtain ⟨fT, fdT, FT, gT, _⟩ := dT.get X G
  have bT := FT.binds (ps := ["ring"]) fun _ _ _ _ _ _ us hl => match us, hl with | [_], _ => rfl
  obtain ⟨fI, fdI, FI, gI, _⟩ := dI.get X G
  have bI := FI.binds (ps := ["ring", "place"]) fun _ _ _ _ _ _ us hl => match us, hl with | [_, _], _ => rfl
  obtain ⟨fN, fdN, FN, gN, _⟩ := dN.get X G
  have bN := FN.binds (ps := ["ring", "place"]) fun _ _ _ _ _ _ us hl => match us, hl with | [_, _], _ => rfl
  obtain ⟨fA, fdA, FA, gA, _⟩ := dA.get X G
  have bA := FA.binds (ps := ["ring", "place"]) fun _ _ _ _ _ _ us hl => match us, hl with | [_, _], _ => rfl
  obtain ⟨fP, fdP, FP, gP, _⟩ := dP.get X G
  have bP := FP.binds (ps := ["ring", "low", "high"]) fun _ _ _ _ _ _ us hl => match us, hl with | [_, _, _], _ => rfl
  obtain ⟨fB, fdB, FB, gB, _⟩ := dB.get X G
  have bB := FB.binds (ps := ["ring", "place", "low", "high"]) fun _ _ _ _ _ _ us hl => match us, hl with | [_, _, _, _], _ => rfl
  obtain ⟨fC, fdC, FC, gC, _⟩ := dC.get X G
  have bC := FC.binds (ps := ["ring", "low", "high"]) fun _ _ _ _ _ _ us hl => match us, hl with | [_, _, _], _ => rfl
  obtain ⟨fH, fdH, FH, gH, _⟩ := dH.get X G
  have bH := FH.binds (ps := []) fun _ _ _ _ _ _ us hl => match us, hl with | [], _ => rfl
  obtain ⟨fM, fdM, FM, gM, _⟩ := dM.get X G
  have bM := FM.binds (ps := ["_law_swings"]) fun _ _ _ _ _ _ us hl => match us, hl with | [_], _ => rfl
  obtain ⟨fO, fdO, FO, gO, _⟩ := dO.get X G
  have bO := FO.binds (ps := ["_law_deck_here", "_law_swings"]) fun _ _ _ _ _ _ us hl => match us, hl with | [_, _], _ => rfl
  obtain ⟨fL, fdL, FL, gL, kV, dc, pm, an, cd, ct, efd⟩ := dL.get X G
  have e := hfa.symm.trans gL
  cases e
  subst efd
  exact ⟨_, fun s u => .of_eq rfl, fun base _ _ => ok_law FL FK bK gK FD bD gD FS bS gS FE bE gE FF bF gF FV bV gV FW bW gW FT bT gT FI bI gI FN bN gN FA bA gA FP bP gP FB bB gB FC bC gC FH bH gH FM bM gM FO bO gO (PySem.W.mg_none_of X G z_len) (PySem.W.mg_none_of X G z_range) (PySem.W.mg_none_of X G z_tuple) (PySem.W.mg_none_of X G z_abs) (PySem.W.mg_none_of X G z_enumerate) (PySem.W.mg_none_of X G z_max) (PySem.W.mg_none_of X G z_min) (PySem.W.mg_none_of X G z_sorted) (PySem.W.mg_none_of X G z_int) (PySem.W.mg_none_of X G z_repr) (PySem.W.mg_none_of X G z_list)⟩
end R16
open PySem PySem.W PyProof.Rows
set_option maxHeartbeats 0 in
theorem PySem.Challenge.cw_ringswings_k16_whole_passages_and_swings_holds : PySem.Challenge.rw_ringswings_k16_whole_passages_and_swings.Holds := by
  w_on; o_law; k_head; (case hw => w_witness2)
  k_fill
  refine RS.walk_ofG (l := PySem.Challenge.rw_ringswings_k16_whole_passages_and_swings) (n := 63) (k := 7) (x := "_law_script") (sp := R16.spLaw) rfl (by decide) rfl ⟨rfl, by decide, by decide⟩ (fun w h Y => PySem.W.kIn_of Y) ?F (fun _ _ a ns hl hS => ⟨a, ns, rfl, hS, fun _ => rfl⟩)
  case F =>
    intro w mg fa h KX G hmg
    refine' R16.all_mk KX G hmg (RS.def_mk ?a0 ?l0 ?c0 ?k0) (RS.def_mk ?a1 ?l1 ?c1 ?k1) (RS.def_mk ?a2 ?l2 ?c2 ?k2) (RS.def_mk ?a3 ?l3 ?c3 ?k3) (RS.def_mk ?a4 ?l4 ?c4 ?k4) (RS.def_mk ?a5 ?l5 ?c5 ?k5) (RS.def_mk ?a6 ?l6 ?c6 ?k6) (RS.def_mk ?a7 ?l7 ?c7 ?k7) (RS.def_mk ?a8 ?l8 ?c8 ?k8) (RS.def_mk ?a9 ?l9 ?c9 ?k9) (RS.def_mk ?a10 ?l10 ?c10 ?k10) (RS.def_mk ?a11 ?l11 ?c11 ?k11) (RS.def_mk ?a12 ?l12 ?c12 ?k12) (RS.def_mk ?a13 ?l13 ?c13 ?k13) (RS.def_mk ?a14 ?l14 ?c14 ?k14) (RS.def_mk ?a15 ?l15 ?c15 ?k15) (RS.def_mk ?a16 ?l16 ?c16 ?k16) (RS.def_mk ?a17 ?l17 ?c17 ?k17) ?z0 ?z1 ?z2 ?z3 ?z4 ?z5 ?z6 ?z7 ?z8 ?z9 ?z10
    (case a0 => k_is); (case l0 => k_is); (case c0 => k_is); (case k0 => k_is)
    (case a1 => k_is); (case l1 => k_is); (case c1 => k_is); (case k1 => k_is)
    (case a2 => k_is); (case l2 => k_is); (case c2 => k_is); (case k2 => k_is)
    (case a3 => k_is); (case l3 => k_is); (case c3 => k_is); (case k3 => k_is)
    (case a4 => k_is); (case l4 => k_is); (case c4 => k_is); (case k4 => k_is)
    (case a5 => k_is); (case l5 => k_is); (case c5 => k_is); (case k5 => k_is)
    (case a6 => k_is); (case l6 => k_is); (case c6 => k_is); (case k6 => k_is)
    (case a7 => k_is); (case l7 => k_is); (case c7 => k_is); (case k7 => k_is)
    (case a8 => k_is); (case l8 => k_is); (case c8 => k_is); (case k8 => k_is)
    (case a9 => k_is); (case l9 => k_is); (case c9 => k_is); (case k9 => k_is)
    (case a10 => k_is); (case l10 => k_is); (case c10 => k_is); (case k10 => k_is)
    (case a11 => k_is); (case l11 => k_is); (case c11 => k_is); (case k11 => k_is)
    (case a12 => k_is); (case l12 => k_is); (case c12 => k_is); (case k12 => k_is)
    (case a13 => k_is); (case l13 => k_is); (case c13 => k_is); (case k13 => k_is)
    (case a14 => k_is); (case l14 => k_is); (case c14 => k_is); (case k14 => k_is)
    (case a15 => k_is); (case l15 => k_is); (case c15 => k_is); (case k15 => k_is)
    (case a16 => k_is); (case l16 => k_is); (case c16 => k_is); (case k16 => k_is)
    (case a17 => k_is); (case l17 => k_is); (case c17 => k_is); (case k17 => k_is)
    (case z0 => k_is)
    (case z1 => k_is)
    (case z2 => k_is)
    (case z3 => k_is)
    (case z4 => k_is)
    (case z5 => k_is)
    (case z6 => k_is)
    (case z7 => k_is)
    (case z8 => k_is)
    (case z9 => k_is)
    (case z10 => k_is)
