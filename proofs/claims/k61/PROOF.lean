import PyProof.Rows.All
import Wide.All
import OpenK.AllK
import Wide.FinOn
import KE.DataFind
import KE.GoesEnumKw
import KE.GoesMore
import KE.KExcIs
import KE.SortData
import PyProof.MaxThree
import PyProof.ReprRoads
import PyProof.TupleOfSeq
import HandS.AnyAll
import HandS.Base
import HandS.BoundDict
import HandS.BoundList
import HandS.Bytes
import HandS.BytesMake
import HandS.Call
import HandS.CallLocal
import HandS.CallRecv
import HandS.CallSlots
import HandS.ClsMeth
import HandS.Codes
import HandS.Comp
import HandS.Conv
import HandS.Deep
import HandS.DeepEq
import HandS.Defaults
import HandS.Dict
import HandS.DictComp
import HandS.DictEq
import HandS.DictSub
import HandS.DictSubMake
import HandS.DictSubView
import HandS.DictSubView0
import HandS.DictTup
import HandS.EndBits
import HandS.EndOwn
import HandS.EndTab
import HandS.Ends
import HandS.Evl
import HandS.Exc
import HandS.ExcBuiltin
import HandS.ExcCtx
import HandS.ExcField
import HandS.ExcInit
import HandS.ExcInitHot
import HandS.ExcIs
import HandS.ExcOwn
import HandS.ExcSuper
import HandS.ExcValue
import HandS.ExcValueFrom
import HandS.ExcValueHot
import HandS.ExpandTabs
import HandS.ExpandTabs0
import HandS.FStr
import HandS.FStrTup
import HandS.Finally
import HandS.Flow
import HandS.Flt
import HandS.FltErr
import HandS.FltExact
import HandS.FltList
import HandS.FltSums
import HandS.FltText
import HandS.ForDict
import HandS.ForExc
import HandS.ForList
import HandS.ForMost
import HandS.ForSpec
import HandS.FromBytesMap
import HandS.Gcd
import HandS.GenBody
import HandS.GenCall
import HandS.GenList
import HandS.GenOver
import HandS.GenYield
import HandS.Head0
import HandS.Head1
import HandS.Head2
import HandS.Head3
import HandS.Head4
import HandS.HeadEnd
import HandS.HeadHook1
import HandS.HeadHook2
import HandS.HeadHook3
import HandS.HeadHook4
import HandS.HeadNt
import HandS.HeadWalk
import HandS.Hot
import HandS.HotCalls
import HandS.IntHex
import HandS.IntRatio
import HandS.IsInst
import HandS.Iter
import HandS.IterNext
import HandS.IterVal
import HandS.JoinGen
import HandS.Keys
import HandS.Lambda
import HandS.LawCells
import HandS.List
import HandS.ListEq
import HandS.ListItems
import HandS.MakeKw
import HandS.MakeKwOnly
import HandS.MapJoin
import HandS.MapObj
import HandS.MapSum
import HandS.MethStar
import HandS.More
import HandS.NamedTup0
import HandS.NamedTupGet
import HandS.NamedTupSort
import HandS.Nested
import HandS.NestedHot
import HandS.NestedK
import HandS.New
import HandS.New0
import HandS.NoneIn
import HandS.OwnEq
import HandS.OwnIter
import HandS.Property
import HandS.Proxy
import HandS.RaiseFrom
import HandS.RaiseMore
import HandS.RaiseOp
import HandS.ReBound
import HandS.ReCall
import HandS.ReCheck
import HandS.ReDoes
import HandS.ReFacts
import HandS.ReHeld
import HandS.ReIface
import HandS.ReLoops
import HandS.ReMatch
import HandS.ReName
import HandS.ReRuns
import HandS.ReSeek
import HandS.ReSem
import HandS.ReSet
import HandS.ReSub
import HandS.ReTell
import HandS.Records
import HandS.Remove
import HandS.RepeatKit
import HandS.Replace
import HandS.ReplaceDef
import HandS.ReplaceList
import HandS.ReplaceLit
import HandS.Rev
import HandS.RevRange
import HandS.RevTup
import HandS.Rindex
import HandS.Set
import HandS.SetBool
import HandS.SetFor
import HandS.SetIn
import HandS.SetKeys
import HandS.SetTxt0
import HandS.SetTxtIn
import HandS.Slots
import HandS.SlotsOwn
import HandS.SlotsVar
import HandS.Small
import HandS.Sort
import HandS.SortInts
import HandS.SortKw
import HandS.SortOrd
import HandS.SortRule
import HandS.Spec
import HandS.Star
import HandS.Steps
import HandS.StrMore
import HandS.StrSplit
import HandS.Strs
import HandS.Struct
import HandS.Struct0
import HandS.Style
import HandS.SuiteRaise
import HandS.Text
import HandS.ToBytes
import HandS.Translate
import HandS.TryElse
import HandS.TryMany
import HandS.TryOnly
import HandS.TupAny
import HandS.TupLe
import HandS.TupLen
import HandS.TupMul
import HandS.TupSets
import HandS.Walk
import HandS.Wide
import HandS.WideBits
import HandS.WideMore
import HandS.Words
import HandS.WordsDict
import HandS.WordsExc
import HandS.WordsList
import HandS.WrittenFld
import HandS.WrittenGet
import HandS.Zip
import HandS.Zip0
import KE.KExcInit
import KE.DataMinMax
import KE.KSuper
import PyProof.InstNe
import PySem.Challenge.RW_ringswings_k61_board_equality_and_errors
set_option Elab.async false
set_option linter.all false
set_option maxRecDepth 100000
/-! Ringswings, the common part: promises of defs that may call repr (no repr is under way around them), repr of data, enumerate of a tuple. -/
namespace RS
open PySem PySem.Spec PyProof.Rows L2
/-! ### promises under the condition that no repr is under way -/
structure FnG (P : Program) (w : World) (K : PySem.W.Frag) (mg : Str → Option Value) (base : Heap) (CX : CXT) (k : Nat)
    (f : Addr) (fd : FuncData) (ps : List Str) (sp : Sp) : Prop where
  len : ∀ vs H Q E, sp vs H Q E → vs.length = ps.length
  run : ∀ (A : Around) (outer : List Env) (s : Shared) (H : Hp) (args : Args) (us : List Value) (vs : List V) (Q : VK) (E : XK),
    A.guards = some [] → Room k A → Env0 P w K mg base A outer s H → BindsTo s fd args (ps.zip us) → Vals vs us → sp vs H Q E →
      codeAny (model P w) A (.call (.ref f) args) (CR CX outer P w H s Q E) s
section
variable {P : Program} {w : World} {K : PySem.W.Frag} {mg : Str → Option Value} {base : Heap}
theorem okG {x qual : Str} {st : Stmt} {f : Addr} {fd : FuncData} {N ps : List Str} {k : Nat} {sp : Sp} (F : Fun K x qual st f fd)
    (S : FnScope N ps (defScope st)) (len : ∀ vs H Q E, sp vs H Q E → vs.length = ps.length)
    (walk : ∀ (cdv : Value) (A : Around) (outer : List Env) (s : Shared) (H : Hp) (vs : List V) (Q : VK) (E : XK), A.guards = some [] →
      Room k (A.deeper (envOfC qual (defScope st) s.heap.objs.size f cdv)) → sp vs H Q E →
      ∃ t, PSs (cxOf CX0 P w K mg base N qual (defScope st) f cdv A outer s H E).nox (defBody st) t ∧
        t { nx := fun _ H' => Q .non H', rt := Q } (start N vs) H) :
    FnG P w K mg base CX0 (k + 1) f fd ps sp := by
  obtain ⟨oc, od, kV, doc, pm, an, cdv, ct, osl, rfl, lk, hcd⟩ := F.ex
  refine ⟨len, ?_⟩
  intro A outer s H args us vs Q E hgd room env bnd rel prom
  have hlen := len _ _ _ _ prom
  have inK : K.In s.heap := env.mod.kin.keeps fun b o q => (env.bs b o q).1
  have noLim : s.heap.NoLimit := env.mod.nolimit.keeps fun b o q => (env.bs b o q).1
  refine codeAny_call_function room.depth (inK _ _ lk) rfl S.co S.gen rfl (PySem.W.codeRec_of inK hcd) (bnd _ _ _ _ ?_)
  refine wpAny_newFunctionEnv_cells S.kind ?_ ?_
  · rintro ⟨n, v⟩ mem
    exact (S.par n (List.of_mem_zip mem).1).imp id fun q => ⟨q, PySem.W.cellsFrom_some _ _ _ (.inl q)⟩
  · intro env' he s1 x1
    subst he
    refine ⟨noLim.keeps x1.toInCall.keep, codeAny_func ?_⟩
    obtain ⟨t, ht, hq⟩ := walk cdv A outer s H vs Q E hgd (room.deeper _) prom
    have I := inv_start (CX := CX0) (E := E) S room.hd env hlen rel x1
    refine wpAny_mono (ht.nox.run [] s1 (start N vs) H _ I hq) ?_ (fun _ _ z => z)
    intro fl s' hs
    cases fl with
    | ret u =>
      obtain ⟨v, σ', H', J, rv, q⟩ := hs
      exact ⟨v, H', J.os, J.bare, J.base, J.hok, rv, q⟩
    | next =>
      obtain ⟨σ', H', J, q⟩ := hs
      exact ⟨V.non, H', J.os, J.bare, J.base, J.hok, rfl, q⟩
    | brk => exact hs.elim fun _ h => h.elim fun _ h => h.2.elim
    | cont => exact hs.elim fun _ h => h.elim fun _ h => h.2.elim
end
section
variable {X : Cx} {CX : CXT} {k : Nat} {f : Addr} {fd : FuncData} {ps : List Str} {sp : Sp} {E : XK} {x : Str} {p pos : Pos}
  {e : Expr} {es : List Expr} {t : TA}
theorem pe_callG (hgd : X.A.guards = some []) (F : FnG X.prog X.w X.K X.mg X.base CX k f fd ps sp) (room : Room k X.A) (hg : Gl X x)
    (hm : X.mg x = some (.ref f)) (kp : PySem.W.keepIn X.K (.ref f) = true) (bnd : Binds X.K fd ps []) (pass : Passes CX X E)
    (ha : PA X (e :: es) t) (hdb : (x == ("__debug__" : Str)) = false := by decide)
    (he : starEach (e :: es) X.env = (false, eval e X.env) :: starEach es X.env := by rfl)
    (hpl : (backTo pos (starEach es X.env)).any (·.1) = false := by rfl) :
    PE X (.Call (.Name x p) (e :: es) [] pos) (tCall sp [] E t) := by
  refine ⟨?_⟩
  intro pins s σ H Q I h
  refine wpAny_Call_Name_kw (ld_glob I hg hm ?_ hdb)
  refine PySem.W.callWith_K (h₀ := X.base) I.ok.mod.kin kp (thn (ha.run pos pins s σ H _ I h) ?_) he hpl
  rintro us s1 ⟨vs, H1, I1, rel, q⟩
  rw [List.append_nil] at q
  have hl : us.length = ps.length := by
    rw [← rel.length]
    exact F.len _ _ _ _ q
  have bd := bnd s1 us I1.kIn (by rw [List.append_nil]; exact hl)
  rw [List.append_nil] at bd
  refine ⟨I1.kIn, wpAny_call (codeAny_mono (F.run X.A X.stack s1 H1 ⟨us, []⟩ us vs Q E hgd room I1.env0 bd rel q) ?_)⟩
  intro r s' hq
  cases r with
  | error z => exact pass pins σ H1 s1 z s' I1 hq
  | ok fl =>
    cases fl with
    | ret u => exact I1.after hq
    | next => exact hq.elim
    | brk => exact hq.elim
    | cont => exact hq.elim
end
/-! ### repr of data -/
end RS
set_option Elab.async false
set_option linter.all false
set_option maxRecDepth 100000
namespace RS
open PySem PySem.Spec PyProof.Rows L2
/-! ### how long the text of data may be -/
mutual
def cost : PyData → Nat
  | .none => 4
  | .bool _ => 5
  | .int _ => 1921
  | .str x => (reprText x).length
  | .list xs => costAll xs + 3
  | .tuple xs => costAll xs + 3
  | .dict _ => 0
def costAll : List PyData → Nat
  | [] => 0
  | x :: xs => cost x + 2 + costAll xs
end
theorem textFrom_le : ∀ (ts : List Str) (k : Nat) (acc : Str), (textFrom k acc ts).length ≤ acc.length + piled ts
  | [], k, acc => Nat.le_add_right _ _
  | t :: r, k, acc => by
    have h := textFrom_le r (k + 1) (acc ++ (if k > 0 then ", " else "" : String) ++ t)
    have e : (((if k > 0 then ", " else "" : String) : Str)).length ≤ 2 := by split <;> decide +kernel
    rw [strLen_append, strLen_append] at h
    rw [piled_cons]
    show (textFrom (k + 1) (acc ++ (if k > 0 then ", " else "" : String) ++ t) r).length ≤ _
    omega
theorem listText_le (ts : List Str) : (listText ts).length ≤ piled ts + 2 := by
  unfold listText
  have h := textFrom_le ts 0 "["
  have e1 : ((("[" : String) : Str)).length = 1 := rfl
  have e2 : ((("]" : String) : Str)).length = 1 := rfl
  rw [strLen_append]
  omega
theorem tupleText_le (ts : List Str) : (tupleText ts).length ≤ piled ts + 3 := by
  have e3 : (((if ts.length == 1 then ",)" else ")" : String) : Str)).length ≤ 2 := by split <;> decide +kernel
  have e1 : ((("(" : String) : Str)).length = 1 := rfl
  unfold tupleText
  rw [strLen_append, strLen_append, e1]
  by_cases h : ts = []
  · subst h
    have : (Str.join ", " ([] : List Str)).length = 0 := rfl
    omega
  · have := join_length_add ts h
    omega
/-- data whose repr is asked -/
structure Fine (d : PyData) : Prop where
  sh : d.showable = true
  nd : d.hasDict = false
  dp : d.depth ≤ 60
  sz : cost d ≤ sizeLine
/-! ### data of ints -/
theorem log_of_abs {i : Int} {B : Nat} (hB : 0 < B) (h : i.natAbs < 2 ^ B) : i.natAbs.log2 < B := by
  by_cases h0 : i.natAbs = 0
  · rw [h0]
    exact hB
  · exact (Nat.log2_lt h0).mpr h
def dInts (ns : List Int) : List PyData := ns.map .int
theorem dInts_depth : ∀ ns : List Int, PyData.depthAll (dInts ns) = 0
  | [] => rfl
  | n :: ns => by
    show max (PyData.depth (.int n)) (PyData.depthAll (dInts ns)) = 0
    rw [dInts_depth ns]
    rfl
theorem dpInts {K : PySem.W.Frag} {H : Hp} : ∀ ns : List Int, DpAll K H (ns.map V.int) (dInts ns)
  | [] => .nil
  | n :: ns => .cons (.int n) (dpInts ns)
/-! ### frames: what stays of the heap -/
/-- all but two cells (a deck and its cards) stays -/
def Keep (d l : Addr) (H H' : Hp) : Prop := ∀ b o, b ≠ d → b ≠ l → H b = some o → H' b = some o
theorem Keep.trans {d l : Addr} {H H1 H2 : Hp} (a : Keep d l H H1) (b : Keep d l H1 H2) : Keep d l H H2 := fun c o h1 h2 h => b c o h1 h2 (a c o h1 h2 h)
theorem same_upd {H : Hp} {p : Addr} {o : HO} (h : H p = none) : Same H (upd H p o) := by
  intro b x e
  rw [upd_ne (ne_of_none e h)]
  exact e
end RS
set_option Elab.async false
set_option linter.all false
set_option maxRecDepth 100000
namespace PySem
open AutoSeq1 (wpAny_loadPart')
/-! ### enumerate(t), t a tuple -/
theorem rs_meets_enum (l : Addr) (cs : Array Value) (n : Nat) (dct : Option Addr) (sl : Array (Option Value)) :
    Meets (Builtin.«enumerate.__new__» ⟨[.type "enumerate", .ref l], []⟩)
      (fun _ R s => s.heap.get? l = some { cls := .type "tuple", dict := dct, data := .seq cs n, slots := sl } ∧
        R (.ok (.ret (.ref (s.heap.push { cls := .type "tuple_iterator", data := .fields #[.ref l, .int 0 0] }).objs.size)))
          { s with heap := Heap.push (s.heap.push { cls := .type "tuple_iterator", data := .fields #[.ref l, .int 0 0] }) { cls := .type "enumerate", data := .fields #[.none, .bool false, .ref s.heap.objs.size, rawInt 0, .none, .none] } }) := by
  refine .of_wp ?_
  intro prog w A R s h
  obtain ⟨hp, g, d, tk, os⟩ := s
  obtain ⟨hl, h⟩ := h
  have sub := sub_enumerate
  have isT : Heap.IsTuple (Shared.heap ⟨hp, g, d, tk, os⟩) l cs := ⟨_, hl, rfl, n, rfl⟩
  wp_walk using wpAny_loadPart' hl
  refine wpAny_stack_any fun st => wpAny_pure ?_
  split
  · rename_i c _ _ _ _ _
    cases (c == Value.type "enumerate") <;>
      (wp_walk using wpAny_loadPart' hl, wpAny_pyIter_tuple isT
       exact ⟨_, rfl, h⟩)
  · wp_walk using wpAny_loadPart' hl, wpAny_pyIter_tuple isT
    exact ⟨_, rfl, h⟩
section
variable {prog : Program} {w : World} {A : Around} {E : Value → Shared → Prop} {s : Shared}
theorem rs_call_enum {l : Addr} {cs : Array Value} {Q : Value → Shared → Prop} (isT : s.heap.IsTuple l cs)
    (h : ∀ h', IsEnum h' (s.heap.objs.size + 1) s.heap.objs.size 0 .none → h'.IsTupleIter s.heap.objs.size l 0 →
      (∀ b o, s.heap.get? b = some o → h'.get? b = some o) → Q (.ref (s.heap.objs.size + 1)) { s with heap := h' }) :
    wpAny (model prog w) A (call (.type "enumerate") [.ref l]) Q E s := by
  obtain ⟨⟨c, dct, dt, sl⟩, hl, hc, n, hd⟩ := isT
  obtain rfl : c = .type "tuple" := hc
  obtain rfl : dt = .seq cs n := hd
  refine callType_new F.called_enumerate (by decide) (F.typeCall_enumerate_1 _) (F.newCall_enumerate_1 _)
    (fun obj => F.args_object_init_2 obj _) F.entry_enumerate_new (rs_meets_enum l cs n dct sl) ⟨hl, ?_⟩
  generalize ho : ({ cls := .type "tuple_iterator", data := .fields #[.ref l, .int 0 0] } : Obj) = oi
  have hz : (s.heap.push oi).objs.size = s.heap.objs.size + 1 := Heap.size_push ..
  show _ ∧ _
  rw [hz]
  have he : IsEnum ((s.heap.push oi).push
      { cls := .type "enumerate", data := .fields #[.none, .bool false, .ref s.heap.objs.size, rawInt 0, .none, .none] })
      (s.heap.objs.size + 1) s.heap.objs.size 0 .none := by
    rw [← hz]
    exact Heap.get?_push_size _ rfl
  subst ho
  exact ⟨⟨_, he, rfl⟩, h _ he ⟨_, Heap.get?_push_of_some _ (Heap.get?_push_size _ rfl), rfl, rfl⟩
    fun b o x => Heap.get?_push_of_some _ (Heap.get?_push_of_some _ x)⟩
end
end PySem
namespace RS
open PySem PySem.Spec PyProof.Rows L2
/-- the tuple at a, each item in a new pair with its place -/
def ItE (K : PySem.W.Frag) (a : Addr) : It where
  go := fun i H => ∃ (xs : List V) (x : V), SqT K H a xs ∧ xs[i]? = some x
  yld := fun i H v H' => ∃ T x, v = .ref T ∧ H T = none ∧ H' = upd H T (.tup [.int (i : Nat), x]) ∧ ∀ xs, SqT K H a xs → xs[i]? = some x
  stop := fun i H => ∃ xs : List V, SqT K H a xs ∧ xs.length ≤ i
theorem turn_enumT {P : Program} {w : World} {K : PySem.W.Frag} {elts : List Expr} {kk : Nat} {tpos : Pos} (a e it : Addr) :
    Turn P w K (.Tuple elts kk tpos) (ItE K a) [e, it] e
      (fun i h => (∃ old, IsEnum h e it ((i : Nat) : Int) old) ∧ h.IsTupleIter it a i ∧ e ≠ it) where
  mem := by simp
  obj := by
    intro i h st b hb
    obtain ⟨⟨old, he⟩, ⟨o, ho, hc, hd⟩, _⟩ := st
    have e' : b = e ∨ b = it := by simpa using hb
    rcases e' with rfl | rfl
    · exact ⟨_, he, fun v q => nomatch q⟩
    · exact ⟨o, ho, fun v q => by rw [hd] at q; cases q⟩
  keep := by
    intro i h h' st k
    obtain ⟨⟨old, he⟩, hi, hne⟩ := st
    exact ⟨⟨old, k e (by simp) _ he⟩, hi.at fun o q => k it (by simp) o q, hne⟩
  item := by
    intro X hP hw hK hc i pins s σ H E I hf st hg
    subst hP hw hK
    obtain ⟨⟨old, he⟩, hit, hne⟩ := st
    obtain ⟨xs, x, hq, hx⟩ := hg
    obtain ⟨its, rv, tp, hz⟩ := I.tuple hq
    obtain ⟨u, hu, ru⟩ := rv.get hx
    have isT : s.heap.IsTuple a its.toArray := tp
    have hel : e < s.heap.objs.size := Heap.lt_size he
    have hil : it < s.heap.objs.size := by
      obtain ⟨_, q, _⟩ := hit
      exact Heap.lt_size q
    have hta : a ≠ it := by
      rintro rfl
      obtain ⟨o1, q1, c1, _⟩ := isT
      obtain ⟨o2, q2, c2, _⟩ := hit
      rw [q1] at q2
      cases q2
      rw [c1] at c2
      injection c2 with c3
      exact absurd c3 (by decide)
    have hea : e ≠ a := by
      rintro rfl
      obtain ⟨o1, q1, c1, _⟩ := isT
      rw [he] at q1
      cases q1
      injection c1 with c3
      exact absurd c3 (by decide)
    have D := Draws.tuple (prog := X.prog) (w := X.w) (A := X.A.in1) (show X.A.in1.handled = none from I.ok.hd hc) it a hta its.toArray
    have hlt : i < its.toArray.size := by
      have := (List.getElem?_eq_some_iff.mp hu).1
      simpa using this
    refine wpAny_pyNext_enum_itemD D he ⟨hit, isT⟩ hlt hne (by simp; exact ⟨hne, hea⟩) ?_
    intro x' h' tk hx' ho st' hT hsz hk
    have ex : x' = u := by
      have : its[i]? = some x' := by simpa using hx'
      rw [hu] at this
      exact (Option.some.inj this).symm
    subst ex
    refine ⟨_, rfl, wpAny_letOwnedTupleGo_enum (s := { s with heap := h', toks := tk + 1 }) ho ?_⟩
    intro h'' he' sb
    have hT2 : h''.get? s.heap.objs.size = some { cls := .type "tuple", data := .seq #[.int i tk, x'] } := (sb.2 _ (Nat.ne_of_gt hel)).trans hT
    have new : ObjOk X.prog X.w (upd H s.heap.objs.size (.tup [.int (i : Nat), x])) h'' s.heap.objs.size (.tup [.int (i : Nat), x]) :=
      ⟨by show 2 ≤ sizeLine; decide, [.int i tk, x'], .cons ⟨_, rfl⟩ (.cons ru .nil), ⟨_, hT2, rfl, _, rfl⟩⟩
    have I1 : Inv X pins σ (upd H s.heap.objs.size (.tup [.int (i : Nat), x])) { s with heap := h'', toks := tk + 1 } := by
      refine I.turnedNew (ch := [e, it]) ?_ hf (Nat.le_refl _) new
      intro b ob hb q
      have b1 : b ≠ e := fun z => hb (by simp [z])
      have b2 : b ≠ it := fun z => hb (by simp [z])
      exact (sb.2 b b1).trans (hk b ob b1 b2 q)
    refine ⟨.ref s.heap.objs.size, _, I1, rfl, ⟨_, x, rfl, I.hok.fresh (Nat.le_refl _), rfl, fun ys hy => by rw [I.tuple_inj hy hq]; exact hx⟩, ⟨⟨x', ?_⟩, ?_, hne⟩, ?_⟩
    · have e1 : ((i + 1 : Nat) : Int) = (i : Int) + 1 := by omega
      rw [e1]
      exact he'
    · exact st'.1.at fun o q => (sb.2 it (Ne.symm hne)).trans q
    · intro b hb
      have hb' : b ≠ s.heap.objs.size := by
        have e' : b = e ∨ b = it := by simpa using hb
        rcases e' with rfl | rfl
        · exact Nat.ne_of_lt hel
        · exact Nat.ne_of_lt hil
      rw [upd_ne hb']
      exact (hf b hb).1
  done := by
    intro X hP hw hK hc i pins s σ H E I hf st hg
    subst hP hw hK
    obtain ⟨⟨old, he⟩, hit, hne⟩ := st
    obtain ⟨xs, hq, hx⟩ := hg
    obtain ⟨its, rv, tp, hz⟩ := I.tuple hq
    obtain ⟨f0, f1, f2, f3, f4, f5⟩ := hf it (by simp)
    have isT : s.heap.IsTuple a its.toArray := tp
    have hta : a ≠ it := by
      rintro rfl
      obtain ⟨o1, q1, c1, _⟩ := isT
      obtain ⟨o2, q2, c2, _⟩ := hit
      rw [q1] at q2
      cases q2
      rw [c1] at c2
      injection c2 with c3
      exact absurd c3 (by decide)
    have hl := rv.length
    have hT : s.TypeIs (.ref e) "enumerate" := ⟨_, he, rfl⟩
    unfold pyNext
    refine wpAny_bind (wpAny_attempt (wpAny_callSpecial?_slot (name := Str.ofString "__next__") hT F.slot_enumerate_next
      (wpAny_call_entry F.slot_enumerate_next hT F.entry_enumerate_next ?_ (F.args_enumerate_next_1 _))))
    show wpAny _ _ (field (.ref e) 2 >>= _) _ _ _
    refine wpAny_bind (wpAny_field he rfl (x := .ref it) rfl ?_)
    refine wpAny_bind (wpAny_nextOf_tuple_end (show X.A.in1.handled = none from I.ok.hd hc) hit isT (by simp; omega) fun h' x he' hx' => ?_)
    obtain ⟨o, ho, hcl⟩ := hx'
    refine wpAny_bind (wpAny_isInstance (T := "StopIteration") (b := true) ⟨o, ho, hcl⟩ isSubtype_stop ?_)
    exact wpAny_pure ⟨rfl, I.turned (t' := s.toks) (fun b o hb q => he' b o hb q) f0 f1 f3 f4 f5⟩
  self := by
    intro A i s Q E st h
    obtain ⟨⟨_, he⟩, _⟩ := st
    exact wpAny_pyIter_enum he h
def iEnumT (K : PySem.W.Frag) (ta : TA) : TI := fun σ H R => ta σ H fun vs H1 => ∃ a xs, vs = [.ref a] ∧ SqT K H1 a xs ∧ R (ItE K a) H1
theorem pi_enumT {X : Cx} {e : Expr} {ta : TA} {p pos tpos : Pos} {elts : List Expr} {kk : Nat} (hg : Gl X "enumerate")
    (hm : X.mg "enumerate" = none) (ha : PA X [e] ta) (hs : starEach [e] X.env = [(false, eval e X.env)] := by rfl) :
    PI X (.Tuple elts kk tpos) (.Call (.Name "enumerate" p) [e] [] pos) (iEnumT X.K ta) := by
  refine ⟨?_⟩
  intro pins s σ H R I h
  refine Call_ (ld_blt I hg hm boot_enumerate (PyProof.Rows.callWith_type1 (thn (ha.run pos pins s σ H _ I h) ?_) hs rfl))
  rintro us s1 ⟨vs, H1, I1, r1, a, xs, ex, hq, q⟩
  subst ex
  obtain ⟨u, rfl, ru⟩ := vals1 r1
  cases ru
  obtain ⟨its, rv, tp, hz⟩ := I1.tuple hq
  refine rs_call_enum (show s1.heap.IsTuple a its.toArray from tp) fun h' he hit hk => wpAny_pyIter_enum he ?_
  have I2 : Inv X pins σ H1 { s1 with heap := h' } := I1.kept (t' := s1.toks) hk
  refine ⟨s1.heap.objs.size + 1, [s1.heap.objs.size + 1, s1.heap.objs.size], _, _, H1, rfl, I2,
    turn_enumT a (s1.heap.objs.size + 1) s1.heap.objs.size, ⟨⟨.none, he⟩, hit, Nat.succ_ne_self _⟩, ?_, q⟩
  intro b hb
  have hle : s1.heap.objs.size ≤ b := by
    have e' : b = s1.heap.objs.size + 1 ∨ b = s1.heap.objs.size := by simpa using hb
    rcases e' with rfl | rfl
    · exact Nat.le_add_right _ _
    · exact Nat.le_refl _
  exact I1.fpOk hle (I1.hok.fresh hle)
end RS
set_option Elab.async false
set_option linter.all false
set_option maxRecDepth 100000
namespace RS
open PySem PySem.Spec PyProof.Rows L2
/-! ### slices -/
theorem cut_to (xs : List V) (k : Nat) : cutV xs none (some (k : Int)) = xs.take k := by
  unfold cutV
  rw [HT.sIx_none, HT.sIx_nat, Nat.sub_zero, List.drop_zero]
  by_cases h : k ≤ xs.length
  · rw [Nat.min_eq_left h]
  · rw [Nat.min_eq_right (by omega), List.take_length, List.take_of_length_le (by omega)]
/-! ### items -/
theorem get_map_int {ns : List Int} {i : Nat} {v : V} (h : (ns.map V.int)[i]? = some v) : ∃ n, ns[i]? = some n ∧ v = .int n := by
  rw [List.getElem?_map] at h
  cases e : ns[i]? with
  | none =>
    rw [e] at h
    cases h
  | some n =>
    rw [e] at h
    exact ⟨n, rfl, (Option.some.inj h).symm⟩
/-- the item before a place, around the ring -/
def prevOf (ns : List Int) (i : Nat) : Int := ns.getD (if i = 0 then ns.length - 1 else i - 1) 0
/-! ### walks -/
/-! ### the deck of a law's draws -/
structure Deck (H : Hp) (d l : Addr) (n : Int) : Prop where
  top : H d = some (.lst [.ref l, .int n])
  cards : ∃ cs : List Int, H l = some (.lst (cs.map V.int)) ∧ (∀ c ∈ cs, 0 ≤ c) ∧ cs.length ≤ 63
  ne : l ≠ d
  n0 : 0 ≤ n
theorem Deck.keep {H H' : Hp} {d l : Addr} {n : Int} (D : Deck H d l n) (h1 : H' d = H d) (h2 : H' l = H l) : Deck H' d l n := by
  refine ⟨h1.trans D.top, ?_, D.ne, D.n0⟩
  obtain ⟨cs, a, b, c⟩ := D.cards
  exact ⟨cs, h2.trans a, b, c⟩
/-- a tuple that stands is none of the deck's two lists -/
theorem Deck.tup_ne {H : Hp} {d l a : Addr} {n : Int} (D : Deck H d l n) {xs : List V} (h : H a = some (.tup xs)) : a ≠ d ∧ a ≠ l := by
  obtain ⟨cs, c1, _⟩ := D.cards
  constructor
  · rintro rfl
    rw [D.top] at h
    cases h
  · rintro rfl
    rw [c1] at h
    cases h
theorem Deck.free_ne {H : Hp} {d l a : Addr} {n : Int} (D : Deck H d l n) (h : H a = none) : a ≠ d ∧ a ≠ l := by
  obtain ⟨cs, c1, _⟩ := D.cards
  constructor
  · rintro rfl
    rw [D.top] at h
    cases h
  · rintro rfl
    rw [c1] at h
    cases h
theorem Keep.free {d l p : Addr} {n : Int} {H H' : Hp} (k : Keep d l H H') (D : Deck H' d l n) (h : H' p = none) : H p = none := by
  obtain ⟨h1, h2⟩ := D.free_ne h
  cases q : H p with
  | none => rfl
  | some o =>
    rw [k p o h1 h2 q] at h
    cases h
theorem Keep.tup {d l p : Addr} {n : Int} {H H' : Hp} (k : Keep d l H H') (D : Deck H d l n) {xs : List V} (h : H p = some (.tup xs)) : H' p = some (.tup xs) :=
  k p _ (D.tup_ne h).1 (D.tup_ne h).2 h
/-- heights -/
def Ht (h : Int) : Prop := -1000000000 ≤ h ∧ h ≤ 1000000000
end RS
namespace RS
open PySem PySem.Spec PyProof.Rows L2
/-! ### movement -/
def absI (x : Int) : Int := if x < 0 then -x else x
end RS
namespace RS
open PySem PySem.Spec PyProof.Rows L2
/-! ### rules at a written part that is named (within comprehensions) -/
end RS
namespace RS
open PySem PySem.Spec PyProof.Rows L2
/-! ### slices and sums of tuples, whether the same object comes back or a new one -/
/-! ### bounds -/
end RS
set_option Elab.async false
set_option linter.all false
set_option maxRecDepth 100000
/-! The data layer, core: a program's values as trees of data, with opaque objects beside them; what an expression, a test, a statement does to data. -/
namespace RS
open PySem PySem.Spec PyProof.Rows L2
/-- data; obj: a value that is not looked into -/
inductive D where
  | non | bl (b : Bool) | int (i : Int) | str (x : Str) | tup (xs : List D) | lst (xs : List D) | obj (v : V) | dct (kvs : List (Str × Int)) | tpf (xs : List D)
/-- an object that may change: as the heap has it; a list of data; an instance with its fields -/
inductive MO where
  | raw (o : HO) | dl (ds : List D) | ins (C dx : Addr) (fs : List (Str × D)) | xd (fs : List (Str × D))
abbrev Mem := Addr → Option MO
def updM (M : Mem) (a : Addr) (o : MO) : Mem := fun b => if b = a then some o else M b
theorem updM_same {M : Mem} {a : Addr} {o : MO} : updM M a o a = some o := by unfold updM; rw [if_pos rfl]
theorem updM_ne {M : Mem} {a b : Addr} {o : MO} (h : b ≠ a) : updM M a o b = M b := by unfold updM; rw [if_neg h]
/-- M: the objects that may change, with what they are; N: the addresses that no data holds; H: the heap -/
structure Wd where
  M : Mem
  N : Addr → Prop
  H : Hp
def StT (K : PySem.W.Frag) (W : Wd) (a : Addr) (vs : List V) : Prop := Rd W.H a (.tup vs) ∧ ¬ W.N a
/-- a tuple whose object has no dict of its own -/
def StF (K : PySem.W.Frag) (W : Wd) (a : Addr) (vs : List V) : Prop := (∃ o : Obj, o.cls = .type "tuple" ∧ o.dict = none ∧ W.H a = some (.frz o (.tup vs))) ∧ ¬ W.N a
def dkOf (kvs : List (Str × Int)) : List (Key × V) := kvs.map fun p => (.inr p.1, .int p.2)
def StD (K : PySem.W.Frag) (W : Wd) (a : Addr) (kvs : List (Str × Int)) : Prop := W.H a = some (.dK (dkOf kvs)) ∧ ¬ W.N a
def StL (K : PySem.W.Frag) (W : Wd) (a : Addr) (vs : List V) : Prop := W.H a = some (.lst vs) ∧ ¬ W.N a
mutual
inductive Rv (K : PySem.W.Frag) (W : Wd) : V → D → Prop
  | non : Rv K W .non .non
  | bl (b : Bool) : Rv K W (.bl b) (.bl b)
  | int (i : Int) : Rv K W (.int i) (.int i)
  | str (x : Str) : Rv K W (.str x) (.str x)
  | tup {a : Addr} {vs : List V} {ds : List D} : StT K W a vs → Rvs K W vs ds → Rv K W (.ref a) (.tup ds)
  | lst {a : Addr} {vs : List V} {ds : List D} : StL K W a vs → Rvs K W vs ds → Rv K W (.ref a) (.lst ds)
  | obj (v : V) : Rv K W v (.obj v)
  | dct {a : Addr} {kvs : List (Str × Int)} : StD K W a kvs → Rv K W (.ref a) (.dct kvs)
  | tpf {a : Addr} {vs : List V} {ds : List D} : StF K W a vs → Rvs K W vs ds → Rv K W (.ref a) (.tpf ds)
inductive Rvs (K : PySem.W.Frag) (W : Wd) : List V → List D → Prop
  | nil : Rvs K W [] []
  | cons {v : V} {vs : List V} {d : D} {ds : List D} : Rv K W v d → Rvs K W vs ds → Rvs K W (v :: vs) (d :: ds)
end
inductive Rfs (K : PySem.W.Frag) (W : Wd) : List (Str × V) → List (Str × D) → Prop
  | nil : Rfs K W [] []
  | cons {x : Str} {v : V} {vs : List (Str × V)} {d : D} {ds : List (Str × D)} : Rv K W v d → Rfs K W vs ds → Rfs K W ((x, v) :: vs) ((x, d) :: ds)
def MOk (K : PySem.W.Frag) (W : Wd) (a : Addr) : MO → Prop
  | .raw o => W.H a = some o
  | .dl ds => ∃ vs, W.H a = some (.lst vs) ∧ Rvs K W vs ds
  | .ins C dx fs => ∃ gs, W.H a = some (.ins C dx gs) ∧ Rfs K W gs fs
  | .xd fs => ∃ gs, W.H a = some (.xd gs) ∧ Rfs K W gs fs
structure Ok (K : PySem.W.Frag) (W : Wd) : Prop where
  m : ∀ a o, W.M a = some o → W.N a ∧ MOk K W a o
theorem MOk.there {K : PySem.W.Frag} {W : Wd} {a : Addr} {o : MO} (h : MOk K W a o) : ∃ u, W.H a = some u := by
  cases o with
  | raw u => exact ⟨u, h⟩
  | dl ds => exact ⟨_, h.choose_spec.1⟩
  | ins C dx fs => exact ⟨_, h.choose_spec.1⟩
  | xd fs => exact ⟨_, h.choose_spec.1⟩
theorem Ok.obj_ {K : PySem.W.Frag} {W : Wd} (k : Ok K W) {a : Addr} {o : MO} (h : W.M a = some o) : ∃ u, W.H a = some u := (k.m a o h).2.there
theorem Ok.nil_ {K : PySem.W.Frag} {W : Wd} (k : Ok K W) {a : Addr} (h : W.H a = none) : W.M a = none := by
  cases e : W.M a with
  | none => rfl
  | some o =>
    obtain ⟨u, z⟩ := k.obj_ e
    rw [h] at z
    cases z
/-- what is not in M stays -/
def Fr (W W' : Wd) : Prop := ∀ a o, W.M a = none → W.H a = some o → W'.H a = some o ∧ W'.M a = none ∧ (W'.N a ↔ W.N a)
theorem Fr.refl (W : Wd) : Fr W W := fun a o h1 h2 => ⟨h2, h1, Iff.rfl⟩
theorem Fr.trans {W W1 W2 : Wd} (a : Fr W W1) (b : Fr W1 W2) : Fr W W2 := fun c o h1 h2 => by
  obtain ⟨x1, x2, x3⟩ := a c o h1 h2
  obtain ⟨y1, y2, y3⟩ := b c o x2 x1
  exact ⟨y1, y2, y3.trans x3⟩
section
variable {K : PySem.W.Frag} {W W' : Wd}
theorem StT.sq {a : Addr} {vs : List V} (h : StT K W a vs) : SqT K W.H a vs := .inl h.1
theorem StF.st {a : Addr} {vs : List V} (h : StF K W a vs) : StT K W a vs := ⟨.inr ⟨h.1.choose, h.1.choose_spec.2.2⟩, h.2⟩
theorem StL.sq {a : Addr} {vs : List V} (h : StL K W a vs) : SqL K W.H a vs := .inl (.inl h.1)
theorem Ok.free (k : Ok K W) {a : Addr} (h : ¬ W.N a) : W.M a = none := by
  cases e : W.M a with
  | none => rfl
  | some o => exact absurd (k.m a o e).1 h
/-- the same trees in another world: what data may hold stays -/
structure Carry (K : PySem.W.Frag) (W W' : Wd) : Prop where
  c : ∀ {a : Addr} {o : HO}, W.H a = some o → ¬ W.N a → W'.H a = some o ∧ ¬ W'.N a
theorem Carry.t (c : Carry K W W') {a : Addr} {vs : List V} (h : StT K W a vs) : StT K W' a vs := by
  obtain ⟨h1 | ⟨o, h1⟩, h2⟩ := h
  · obtain ⟨x, y⟩ := c.c h1 h2
    exact ⟨.inl x, y⟩
  · obtain ⟨x, y⟩ := c.c h1 h2
    exact ⟨.inr ⟨o, x⟩, y⟩
theorem Carry.l (c : Carry K W W') {a : Addr} {vs : List V} (h : StL K W a vs) : StL K W' a vs := c.c h.1 h.2
theorem Carry.d (c : Carry K W W') {a : Addr} {kvs : List (Str × Int)} (h : StD K W a kvs) : StD K W' a kvs := c.c h.1 h.2
theorem Carry.f (c : Carry K W W') {a : Addr} {vs : List V} (h : StF K W a vs) : StF K W' a vs := by
  obtain ⟨⟨o, h1, h2, h3⟩, h4⟩ := h
  obtain ⟨x, y⟩ := c.c h3 h4
  exact ⟨⟨o, h1, h2, x⟩, y⟩
theorem Fr.carry (k : Ok K W) (f : Fr W W') : Carry K W W' := ⟨fun {a o} h1 h2 => by
  obtain ⟨x1, x2, x3⟩ := f _ _ (k.free h2) h1
  exact ⟨x1, fun z => h2 (x3.mp z)⟩⟩
theorem StT.fr (k : Ok K W) (f : Fr W W') {a : Addr} {vs : List V} (h : StT K W a vs) : StT K W' a vs := (f.carry k).t h
theorem StL.fr (k : Ok K W) (f : Fr W W') {a : Addr} {vs : List V} (h : StL K W a vs) : StL K W' a vs := (f.carry k).l h
theorem StD.fr (k : Ok K W) (f : Fr W W') {a : Addr} {kvs : List (Str × Int)} (h : StD K W a kvs) : StD K W' a kvs := (f.carry k).d h
theorem StF.fr (k : Ok K W) (f : Fr W W') {a : Addr} {vs : List V} (h : StF K W a vs) : StF K W' a vs := (f.carry k).f h
mutual
theorem Rv.carry (c : Carry K W W') : ∀ (d : D) (v : V), Rv K W v d → Rv K W' v d
  | .non, _, h => by cases h; exact .non
  | .bl b, _, h => by cases h; exact .bl b
  | .int i, _, h => by cases h; exact .int i
  | .str x, _, h => by cases h; exact .str x
  | .tup ds, _, h => by
    cases h with
    | tup a b => exact .tup (c.t a) (Rvs.carry c ds _ b)
  | .lst ds, _, h => by
    cases h with
    | lst a b => exact .lst (c.l a) (Rvs.carry c ds _ b)
  | .obj v, _, h => by cases h; exact .obj v
  | .dct kvs, _, h => by
    cases h with
    | dct a => exact .dct (c.d a)
  | .tpf ds, _, h => by
    cases h with
    | tpf a b => exact .tpf (c.f a) (Rvs.carry c ds _ b)
theorem Rvs.carry (c : Carry K W W') : ∀ (ds : List D) (vs : List V), Rvs K W vs ds → Rvs K W' vs ds
  | [], _, h => by cases h; exact .nil
  | d :: ds, _, h => by
    cases h with
    | cons a b => exact .cons (Rv.carry c d _ a) (Rvs.carry c ds _ b)
end
theorem Rv.fr {v : V} {d : D} (h : Rv K W v d) (k : Ok K W) (f : Fr W W') : Rv K W' v d := Rv.carry (f.carry k) d v h
theorem Rvs.fr {v : List V} {d : List D} (h : Rvs K W v d) (k : Ok K W) (f : Fr W W') : Rvs K W' v d := Rvs.carry (f.carry k) d v h
theorem Rfs.fr {v : List (Str × V)} {d : List (Str × D)} (h : Rfs K W v d) (k : Ok K W) (f : Fr W W') : Rfs K W' v d := by
  induction h with
  | nil => exact .nil
  | cons a _ ih => exact .cons (a.fr k f) ih
theorem Rfs.carry {v : List (Str × V)} {d : List (Str × D)} (h : Rfs K W v d) (c : Carry K W W') : Rfs K W' v d := by
  induction h with
  | nil => exact .nil
  | cons a _ ih => exact .cons (Rv.carry c _ _ a) ih
theorem Rvs.length : ∀ {vs : List V} {ds : List D}, Rvs K W vs ds → vs.length = ds.length
  | _, _, .nil => rfl
  | _, _, .cons _ b => by simp [Rvs.length b]
theorem Rvs.get : ∀ {vs : List V} {ds : List D} {i : Nat} {d : D}, Rvs K W vs ds → ds[i]? = some d → ∃ v, vs[i]? = some v ∧ Rv K W v d
  | _, _, _, _, .nil, e => by simp at e
  | _, _, 0, _, .cons r _, e => by
    simp at e
    subst e
    exact ⟨_, rfl, r⟩
  | _, _, i + 1, d, .cons _ t, e => by
    obtain ⟨v, h1, h2⟩ := Rvs.get (i := i) (d := d) t (by simpa using e)
    exact ⟨v, by simpa using h1, h2⟩
theorem Rvs.get' : ∀ {vs : List V} {ds : List D} {i : Nat} {v : V}, Rvs K W vs ds → vs[i]? = some v → ∃ d, ds[i]? = some d ∧ Rv K W v d
  | _, _, _, _, .nil, e => by simp at e
  | _, _, 0, _, .cons r _, e => by
    simp at e
    subst e
    exact ⟨_, rfl, r⟩
  | _, _, i + 1, d, .cons _ t, e => by
    obtain ⟨v, h1, h2⟩ := Rvs.get' (i := i) (v := d) t (by simpa using e)
    exact ⟨v, by simpa using h1, h2⟩
theorem Rvs.append : ∀ {vs ws : List V} {ds es : List D}, Rvs K W vs ds → Rvs K W ws es → Rvs K W (vs ++ ws) (ds ++ es)
  | _, _, _, _, .nil, s => s
  | _, _, _, _, .cons r t, s => .cons r (Rvs.append t s)
theorem Rvs.take : ∀ {vs : List V} {ds : List D} (n : Nat), Rvs K W vs ds → Rvs K W (vs.take n) (ds.take n)
  | _, _, 0, _ => by simpa using Rvs.nil
  | _, _, _ + 1, .nil => .nil
  | _, _, n + 1, .cons r t => .cons r (Rvs.take n t)
theorem Rvs.drop : ∀ {vs : List V} {ds : List D} (n : Nat), Rvs K W vs ds → Rvs K W (vs.drop n) (ds.drop n)
  | _, _, 0, r => r
  | _, _, _ + 1, .nil => .nil
  | _, _, n + 1, .cons _ t => Rvs.drop n t
theorem Rvs.reverse {vs : List V} {ds : List D} (h : Rvs K W vs ds) : Rvs K W vs.reverse ds.reverse := by
  match h with
  | .nil => exact .nil
  | .cons r t =>
    rw [List.reverse_cons, List.reverse_cons]
    exact t.reverse.append (.cons r .nil)
theorem Rvs.rep {vs : List V} {ds : List D} (h : Rvs K W vs ds) : ∀ k : Nat, Rvs K W (List.replicate k vs).flatten (List.replicate k ds).flatten
  | 0 => .nil
  | k + 1 => by
    rw [List.replicate_succ, List.replicate_succ, List.flatten_cons, List.flatten_cons]
    exact h.append (h.rep k)
theorem Rvs.ints : ∀ ns : List Int, Rvs K W (ns.map V.int) (ns.map D.int)
  | [] => .nil
  | n :: ns => .cons (.int n) (Rvs.ints ns)
theorem Rvs.of_ints : ∀ {ns : List Int} {vs : List V}, Rvs K W vs (ns.map D.int) → vs = ns.map V.int
  | [], _, h => by cases h; rfl
  | n :: ns, _, h => by
    cases h with
    | cons a b =>
      cases a
      rw [Rvs.of_ints b]
      rfl
end
/-! ### new data -/
/-- a new object of data at p -/
def Wd.add (W : Wd) (p : Addr) (o : HO) : Wd := ⟨W.M, fun a => W.N a ∧ a ≠ p, upd W.H p o⟩
section
variable {K : PySem.W.Frag} {W : Wd} {p : Addr} {o : HO}
theorem MOk.fr (k : Ok K W) {W' : Wd} (f : Fr W W') {a : Addr} {m : MO} (h : MOk K W a m) (e : W'.H a = W.H a) : MOk K W' a m := by
  cases m with
  | raw o =>
    show W'.H a = _
    rw [e]
    exact h
  | dl ds =>
    obtain ⟨vs, h1, h2⟩ := h
    exact ⟨vs, by rw [e]; exact h1, h2.fr k f⟩
  | ins C dx fs =>
    obtain ⟨gs, h1, h2⟩ := h
    exact ⟨gs, by rw [e]; exact h1, h2.fr k f⟩
  | xd fs =>
    obtain ⟨gs, h1, h2⟩ := h
    exact ⟨gs, by rw [e]; exact h1, h2.fr k f⟩
theorem Fr.add (n : W.H p = none) : Fr W (W.add p o) := fun a u h1 h2 => by
  have hne : a ≠ p := ne_of_none h2 n
  exact ⟨by show upd W.H p o a = _; rw [upd_ne hne]; exact h2, h1, ⟨fun z => z.1, fun z => ⟨z, hne⟩⟩⟩
theorem Ok.add (k : Ok K W) (n : W.H p = none) : Ok K (W.add p o) := ⟨fun a u e => by
  obtain ⟨h1, h2⟩ := k.m a u e
  obtain ⟨z, hz⟩ := h2.there
  have hne : a ≠ p := ne_of_none hz n
  exact ⟨⟨h1, hne⟩, h2.fr k (Fr.add n) (upd_ne hne)⟩⟩
theorem Rv.newT (k : Ok K W) (n : W.H p = none) {vs : List V} {ds : List D} (h : Rvs K W vs ds) : Rv K (W.add p (.tup vs)) (.ref p) (.tup ds) :=
  .tup ⟨.inl upd_same, fun z => z.2 rfl⟩ (h.fr k (Fr.add n))
theorem Rv.newL (k : Ok K W) (n : W.H p = none) {vs : List V} {ds : List D} (h : Rvs K W vs ds) : Rv K (W.add p (.lst vs)) (.ref p) (.lst ds) :=
  .lst ⟨upd_same, fun z => z.2 rfl⟩ (h.fr k (Fr.add n))
end
/-! ### what is read off an expression -/
abbrev DK := D → Mem → Prop
abbrev DG := List (Option D)
abbrev DW := DG → Mem → DK → Prop
abbrev DTW := DG → Mem → (Bool → Mem → Prop) → Prop
abbrev DAW := DG → Mem → (List D → Mem → Prop) → Prop
structure Cn (K : PySem.W.Frag) (Γ : DG) (W : Wd) (σ : L2.St) : Prop where
  ok : Ok K W
  len : Γ.length = σ.length
  env : ∀ (i : Nat) (d : D), Γ[i]? = some (some d) → ∃ v, σ[i]? = some (some v) ∧ Rv K W v d
theorem Cn.fr {K : PySem.W.Frag} {Γ : DG} {W W' : Wd} {σ : L2.St} (c : Cn K Γ W σ) (f : Fr W W') (k : Ok K W') : Cn K Γ W' σ :=
  ⟨k, c.len, fun i d h => by
    obtain ⟨v, h1, h2⟩ := c.env i d h
    exact ⟨v, h1, h2.fr c.ok f⟩⟩
theorem Cn.set {K : PySem.W.Frag} {Γ : DG} {W : Wd} {σ : L2.St} (c : Cn K Γ W σ) (i : Nat) {v : V} {d : D} (r : Rv K W v d) : Cn K (Γ.set i (some d)) W (σ.set i (some v)) := by
  refine ⟨c.ok, by rw [List.length_set, List.length_set, c.len], fun j e h => ?_⟩
  rw [List.getElem?_set] at h
  by_cases hj : i = j
  · subst hj
    rw [if_pos rfl] at h
    by_cases hl : i < Γ.length
    · rw [if_pos hl] at h
      have h' : d = e := Option.some.inj (Option.some.inj h)
      subst h'
      exact ⟨v, by rw [List.getElem?_set, if_pos rfl, if_pos (by rw [← c.len]; exact hl)], r⟩
    · rw [if_neg hl] at h
      cases h
  · rw [if_neg hj] at h
    obtain ⟨u, h1, h2⟩ := c.env j e h
    exact ⟨u, by rw [List.getElem?_set, if_neg hj]; exact h1, h2⟩
/-- a slot is forgotten on both sides -/
theorem Cn.unset {K : PySem.W.Frag} {Γ : DG} {W : Wd} {σ : L2.St} (c : Cn K Γ W σ) (i : Nat) : Cn K (Γ.set i none) W (σ.set i none) := by
  refine ⟨c.ok, by rw [List.length_set, List.length_set, c.len], fun j e h => ?_⟩
  rw [List.getElem?_set] at h
  by_cases hj : i = j
  · subst hj
    rw [if_pos rfl] at h
    split at h <;> cases h
  · rw [if_neg hj] at h
    obtain ⟨u, h1, h2⟩ := c.env j e h
    exact ⟨u, by rw [List.getElem?_set, if_neg hj]; exact h1, h2⟩
def wipeD (Γ : DG) : List Nat → DG
  | [] => Γ
  | v :: vs => (wipeD Γ vs).set v none
theorem Cn.wipe {K : PySem.W.Frag} {Γ : DG} {W : Wd} {σ : L2.St} (c : Cn K Γ W σ) : ∀ vs : List Nat, Cn K (wipeD Γ vs) W (L2.wipe σ vs)
  | [] => c
  | v :: vs => (c.wipe vs).unset v
def Cont (K : PySem.W.Frag) (W : Wd) (P : DK) (Q : VK) : Prop := ∀ (d : D) (W' : Wd) (v : V), P d W'.M → Fr W W' → Ok K W' → Rv K W' v d → Q v W'.H
theorem Cont.fr {K : PySem.W.Frag} {W W' : Wd} {P : DK} {Q : VK} (c : Cont K W P Q) (f : Fr W W') : Cont K W' P Q := fun d W2 v p f2 k r => c d W2 v p (f.trans f2) k r
def lift (K : PySem.W.Frag) (w : DW) : TE := fun σ H Q => ∃ Γ W P, W.H = H ∧ Cn K Γ W σ ∧ w Γ W.M P ∧ Cont K W P Q
def liftT (K : PySem.W.Frag) (w : DTW) : TT := fun σ H Q => ∃ Γ W P, W.H = H ∧ Cn K Γ W σ ∧ w Γ W.M P ∧ ∀ b W', P b W'.M → Fr W W' → Ok K W' → Q b W'.H
def liftA (K : PySem.W.Frag) (w : DAW) : TA := fun σ H Q => ∃ Γ W P, W.H = H ∧ Cn K Γ W σ ∧ w Γ W.M P ∧ ∀ ds W' vs, P ds W'.M → Fr W W' → Ok K W' → Rvs K W' vs ds → Q vs W'.H
def DE (X : Cx) (e : Expr) (w : DW) : Prop := PE X e (lift X.K w)
def DT (X : Cx) (e : Expr) (w : DTW) : Prop := PT X e (liftT X.K w)
def DTw (X : Cx) (e : Expr) (w : DTW) : Prop := PW X e (liftT X.K w)
def DA (X : Cx) (es : List Expr) (w : DAW) : Prop := PA X es (liftA X.K w)
theorem DTw.dt {X : Cx} {e : Expr} {w : DTW} (h : DTw X e w) : DT X e w := PW.pt h
section
variable {X : Cx}
theorem PE.imp {e : Expr} {t t' : TE} (h : PE X e t) (m : ∀ σ H Q, t' σ H Q → t σ H Q) : PE X e t' := ⟨fun pins s σ H Q I q => h.run pins s σ H Q I (m σ H Q q)⟩
theorem PT.imp {e : Expr} {t t' : TT} (h : PT X e t) (m : ∀ σ H Q, t' σ H Q → t σ H Q) : PT X e t' := ⟨fun pins s σ H Q I q => h.run pins s σ H Q I (m σ H Q q)⟩
theorem PW.imp {e : Expr} {t t' : TT} (h : PW X e t) (m : ∀ σ H Q, t' σ H Q → t σ H Q) : PW X e t' := ⟨fun wh pins s σ H Q I q => h.run wh pins s σ H Q I (m σ H Q q)⟩
theorem PA.imp {e : List Expr} {t t' : TA} (h : PA X e t) (m : ∀ σ H Q, t' σ H Q → t σ H Q) : PA X e t' := ⟨fun pos pins s σ H Q I q => h.run pos pins s σ H Q I (m σ H Q q)⟩
theorem PS.imp {e : Stmt} {t t' : TS} (h : PS X e t) (m : ∀ D σ H, t' D σ H → t D σ H) : PS X e t' := ⟨fun pins s σ H D I q => h.run pins s σ H D I (m D σ H q)⟩
theorem PSs.imp {e : List Stmt} {t t' : TS} (h : PSs X e t) (m : ∀ D σ H, t' D σ H → t D σ H) : PSs X e t' := ⟨fun pins s σ H D I q => h.run pins s σ H D I (m D σ H q)⟩
/-! ### a tuple without a dict is a tuple -/
/-! ### names, constants -/
def wName (i : Nat) : DW := fun Γ M P => match Γ[i]? with
  | some (some d) => P d M
  | _ => False
theorem de_name {e : Expr} {i : Nat} (h : PE X e (tVar i)) : DE X e (wName i) := PE.imp h fun σ H Q q => by
  obtain ⟨Γ, W, P, rfl, c, w, k⟩ := q
  unfold wName at w
  split at w
  · rename_i d e1
    obtain ⟨v, h1, h2⟩ := c.env i d e1
    exact ⟨v, h1, k d W v w (Fr.refl W) c.ok h2⟩
  · exact w.elim
def wC (d : D) : DW := fun _ M P => P d M
theorem de_c {e : Expr} {v : V} {d : D} (h : PE X e (tC v)) (r : ∀ W, Rv X.K W v d) : DE X e (wC d) := PE.imp h fun σ H Q q => by
  obtain ⟨Γ, W, P, rfl, c, w, k⟩ := q
  exact k d W v w (Fr.refl W) c.ok (r W)
theorem de_int {i j pos} : DE X (.Constant (.int i) j pos) (wC (.int i)) := de_c pe_int fun _ => .int i
theorem de_bl {b j pos} : DE X (.Constant (.bool b) j pos) (wC (.bl b)) := de_c pe_bl fun _ => .bl b
theorem de_non {j pos} : DE X (.Constant .none j pos) (wC .non) := de_c pe_non fun _ => .non
theorem de_str {x j pos} : DE X (.Constant (.str x) j pos) (wC (.str x)) := de_c pe_str fun _ => .str x
/-! ### operations on two values, on one, calls of known things -/
abbrev G2 := D → D → Mem → DK → Prop
abbrev G1 := D → Mem → DK → Prop
abbrev GN := List D → Mem → DK → Prop
def rD2 (K : PySem.W.Frag) (g : G2) : R2 := fun x y H Q => ∃ W dx dy P, W.H = H ∧ Ok K W ∧ Rv K W x dx ∧ Rv K W y dy ∧ g dx dy W.M P ∧ Cont K W P Q
def rD1 (K : PySem.W.Frag) (g : G1) : V → Hp → VK → Prop := fun x H Q => ∃ W dx P, W.H = H ∧ Ok K W ∧ Rv K W x dx ∧ g dx W.M P ∧ Cont K W P Q
def rDn (K : PySem.W.Frag) (g : GN) : List V → Hp → VK → Prop := fun xs H Q => ∃ W ds P, W.H = H ∧ Ok K W ∧ Rvs K W xs ds ∧ g ds W.M P ∧ Cont K W P Q
def OpD (X : Cx) (f : Value → Value → Sem Value) (g : G2) : Prop := OpR X f (rD2 X.K g)
def UnD (X : Cx) (f : Value → Sem Value) (g : G1) : Prop := UnR X f (rD1 X.K g)
def CallD (X : Cx) (f : Value) (g : GN) : Prop := CallR X f (rDn X.K g)
def IxD (X : Cx) (g : G2) : Prop := IxR X (rD2 X.K g)
def wOp (g : G2) (wa wb : DW) : DW := fun Γ M P => wa Γ M fun d1 M1 => wb Γ M1 fun d2 M2 => g d1 d2 M2 P
def wUn (g : G1) (wa : DW) : DW := fun Γ M P => wa Γ M fun d1 M1 => g d1 M1 P
def wN (g : GN) (wa : DAW) : DW := fun Γ M P => wa Γ M fun ds M1 => g ds M1 P
theorem lift2 {K : PySem.W.Frag} {g : G2} {wa wb : DW} {σ : L2.St} {H : Hp} {Q : VK} (q : lift K (wOp g wa wb) σ H Q) : tOp (rD2 K g) (lift K wa) (lift K wb) σ H Q := by
  obtain ⟨Γ, W, P, rfl, c, w, k⟩ := q
  exact ⟨Γ, W, _, rfl, c, w, fun d1 W1 x w1 f1 k1 r1 => ⟨Γ, W1, _, rfl, c.fr f1 k1, w1, fun d2 W2 y w2 f2 k2 r2 => ⟨W2, d1, d2, P, rfl, k2, r1.fr k1 f2, r2, w2, k.fr (f1.trans f2)⟩⟩⟩
theorem lift1 {K : PySem.W.Frag} {g : G1} {wa : DW} {σ : L2.St} {H : Hp} {Q : VK} (q : lift K (wUn g wa) σ H Q) : tUn (rD1 K g) (lift K wa) σ H Q := by
  obtain ⟨Γ, W, P, rfl, c, w, k⟩ := q
  exact ⟨Γ, W, _, rfl, c, w, fun d1 W1 x w1 f1 k1 r1 => ⟨W1, d1, P, rfl, k1, r1, w1, k.fr f1⟩⟩
theorem de_op {a b : Expr} {op : Operator} {pos : Pos} {g : G2} {wa wb : DW} (ho : OpD X (binaryOp op) g) (ha : DE X a wa) (hb : DE X b wb) : DE X (.BinOp a op b pos) (wOp g wa wb) :=
  PE.imp (pe_op ho ha hb) fun _ _ _ q => lift2 q
theorem de_un {a : Expr} {op : UnaryOp} {pos : Pos} {g : G1} {wa : DW} (ho : UnD X (unaryOp op) g) (ha : DE X a wa) : DE X (.UnaryOp op a pos) (wUn g wa) :=
  PE.imp (pe_un ho ha) fun _ _ _ q => lift1 q
theorem de_cmp {a b : Expr} {op : CmpOp} {pos : Pos} {g : G2} {wa wb : DW} (ho : OpD X (compareOp op) g) (ha : DE X a wa) (hb : DE X b wb) (hm : behindInMarks op b = false) :
    DE X (.Compare a [op] [b] pos) (wOp g wa wb) := PE.imp (pe_cmpR ho ha hb hm) fun _ _ _ q => lift2 q
theorem de_ix {a b : Expr} {pos : Pos} {g : G2} {wa wb : DW} (ho : IxD X g) (ha : DE X a wa) (hb : DE X b wb) (hs : PlainIx b) : DE X (.Subscript a b pos) (wOp g wa wb) :=
  PE.imp (pe_ix ho ha hb hs) fun _ _ _ q => lift2 q
/-! ### arguments -/
def wNil : DAW := fun _ M P => P [] M
def wCons (wa : DW) (wr : DAW) : DAW := fun Γ M P => wa Γ M fun d M1 => wr Γ M1 fun ds M2 => P (d :: ds) M2
theorem da_nil : DA X [] wNil := PA.imp pa_nil fun σ H Q q => by
  obtain ⟨Γ, W, P, rfl, c, w, k⟩ := q
  exact k [] W [] w (Fr.refl W) c.ok .nil
theorem da_cons {e : Expr} {es : List Expr} {we : DW} {wr : DAW} (ha : DE X e we) (hr : DA X es wr) (hs : starEach (e :: es) X.env = (false, eval e X.env) :: starEach es X.env := by rfl) :
    DA X (e :: es) (wCons we wr) := PA.imp (pa_cons ha hr hs) fun σ H Q q => by
  obtain ⟨Γ, W, P, rfl, c, w, k⟩ := q
  exact ⟨Γ, W, _, rfl, c, w, fun d1 W1 x w1 f1 k1 r1 => ⟨Γ, W1, _, rfl, c.fr f1 k1, w1, fun ds W2 ys w2 f2 k2 r2 => k _ W2 _ w2 (f1.trans f2) k2 (.cons (r1.fr k1 f2) r2)⟩⟩
theorem liftN {K : PySem.W.Frag} {g : GN} {wa : DAW} {σ : L2.St} {H : Hp} {Q : VK} (q : lift K (wN g wa) σ H Q) : tCB (rDn K g) (liftA K wa) σ H Q := by
  obtain ⟨Γ, W, P, rfl, c, w, k⟩ := q
  exact ⟨Γ, W, _, rfl, c, w, fun ds W1 x w1 f1 k1 r1 => ⟨W1, ds, P, rfl, k1, r1, w1, k.fr f1⟩⟩
def gTupN : GN := fun ds M P => ds.length ≤ sizeLine ∧ P (.tup ds) M
def gLstN : GN := fun ds M P => ds.length ≤ sizeLine ∧ P (.lst ds) M
theorem de_tup {es : List Expr} {x1} {pos : Pos} {wa : DAW} (h : DA X es wa) : DE X (.Tuple es x1 pos) (wN gTupN wa) := PE.imp (pe_tup h) fun σ H Q q => by
  obtain ⟨Γ, W, P, rfl, c, w, k⟩ := q
  exact ⟨Γ, W, _, rfl, c, w, fun ds W1 vs w1 f1 k1 r1 => ⟨by rw [r1.length]; exact w1.1, fun p np => k _ (W1.add p (.tup vs)) _ w1.2 (f1.trans (Fr.add np)) (k1.add np) (Rv.newT k1 np r1)⟩⟩
theorem de_lst {es : List Expr} {pos : Pos} {wa : DAW} (h : DA X es wa) : DE X (.List es pos) (wN gLstN wa) := PE.imp (pe_lst h) fun σ H Q q => by
  obtain ⟨Γ, W, P, rfl, c, w, k⟩ := q
  exact ⟨Γ, W, _, rfl, c, w, fun ds W1 vs w1 f1 k1 r1 => ⟨by rw [r1.length]; exact w1.1, fun p np => k _ (W1.add p (.lst vs)) _ w1.2 (f1.trans (Fr.add np)) (k1.add np) (Rv.newL k1 np r1)⟩⟩
theorem de_callB {id : String} {g : GN} {x : Str} {p pos : Pos} {e : Expr} {es : List Expr} {wa : DAW} (hc : CallD X (.builtin id) g) (hg : Gl X x) (hm : X.mg x = none) (hv : bootBuiltins x = some (.builtin id)) (ha : DA X (e :: es) wa)
    (hn : x ≠ "__name__" := by decide) (hdb : (x == ("__debug__" : Str)) = false := by decide) (he : starEach (e :: es) X.env = (false, eval e X.env) :: starEach es X.env := by rfl)
    (hpl : (backTo pos (starEach es X.env)).any (·.1) = false := by rfl) :
    DE X (.Call (.Name x p) (e :: es) [] pos) (wN g wa) := PE.imp (pe_callB hc hg hm hv ha hn hdb he hpl) fun _ _ _ q => liftN q
theorem de_callTy {T : String} {g : GN} {x : Str} {p pos : Pos} {e : Expr} {es : List Expr} {wa : DAW} (hc : CallD X (.type T) g) (hg : Gl X x) (hm : X.mg x = none) (hv : bootBuiltins x = some (.type T)) (ha : DA X (e :: es) wa)
    (hn : x ≠ "__name__" := by decide) (hdb : (x == ("__debug__" : Str)) = false := by decide) (he : starEach (e :: es) X.env = (false, eval e X.env) :: starEach es X.env := by rfl)
    (hpl : (backTo pos (starEach es X.env)).any (·.1) = false := by rfl) :
    DE X (.Call (.Name x p) (e :: es) [] pos) (wN g wa) := PE.imp (pe_callTy hc hg hm hv ha hn hdb he hpl) fun _ _ _ q => liftN q
end
/-! ### defs -/
/-- what a def does, by data -/
abbrev DSp := List D → Mem → DK → Prop
def spD (K : PySem.W.Frag) (g : DSp) : Sp := fun vs H Q _ => ∃ W ds P, W.H = H ∧ Ok K W ∧ Rvs K W vs ds ∧ g ds W.M P ∧ Cont K W P Q
theorem de_call {X : Cx} {CX : CXT} {k : Nat} {f : Addr} {fd : FuncData} {ps : List Str} {g : DSp} {E : XK} {x : Str} {p pos : Pos} {e : Expr} {es : List Expr} {wa : DAW} (hgd : X.A.guards = some [])
    (F : FnG X.prog X.w X.K X.mg X.base CX k f fd ps (spD X.K g)) (room : Room k X.A) (hg : Gl X x)
    (hm : X.mg x = some (.ref f)) (kp : PySem.W.keepIn X.K (.ref f) = true) (bnd : Binds X.K fd ps []) (pass : Passes CX X E)
    (ha : DA X (e :: es) wa) (hdb : (x == ("__debug__" : Str)) = false := by decide)
    (he : starEach (e :: es) X.env = (false, eval e X.env) :: starEach es X.env := by rfl)
    (hpl : (backTo pos (starEach es X.env)).any (·.1) = false := by rfl) :
    DE X (.Call (.Name x p) (e :: es) [] pos) (wN g wa) := PE.imp (pe_callG hgd F room hg hm kp bnd pass ha hdb he hpl) fun σ H Q q => by
  obtain ⟨Γ, W, P, rfl, c, w, k⟩ := q
  refine ⟨Γ, W, _, rfl, c, w, fun ds W1 xs w1 f1 k1 r1 => ?_⟩
  show spD X.K g (xs ++ []) W1.H Q E
  rw [List.append_nil]
  exact ⟨W1, ds, P, rfl, k1, r1, w1, k.fr f1⟩
/-- a def of the older kind -/
theorem FnG.of {P : Program} {w : World} {K : PySem.W.Frag} {mg : Str → Option Value} {base : Heap} {CX : CXT} {k : Nat} {f : Addr} {fd : FuncData} {ps : List Str} {sp : Sp} (F : FnOk P w K mg base CX k f fd ps sp) :
    FnG P w K mg base CX k f fd ps sp := ⟨F.len, fun A outer s H args us vs Q E _ hr env b r p => F.run A outer s H args us vs Q E hr env b r p⟩
theorem FnG.imp {P : Program} {w : World} {K : PySem.W.Frag} {mg : Str → Option Value} {base : Heap} {CX : CXT} {k : Nat} {f : Addr} {fd : FuncData} {ps : List Str} {sp sp' : Sp} (F : FnG P w K mg base CX k f fd ps sp)
    (h : ∀ vs H Q E, sp' vs H Q E → sp vs H Q E) : FnG P w K mg base CX k f fd ps sp' :=
  ⟨fun vs H Q E q => F.len vs H Q E (h vs H Q E q), fun A outer s H args us vs Q E hg hr env b r p => F.run A outer s H args us vs Q E hg hr env b r (h vs H Q E p)⟩
theorem FnG.mono {P : Program} {w : World} {K : PySem.W.Frag} {mg : Str → Option Value} {base : Heap} {CX : CXT} {j k : Nat} {f : Addr} {fd : FuncData} {ps : List Str} {sp : Sp} (F : FnG P w K mg base CX j f fd ps sp) (h : j ≤ k) :
    FnG P w K mg base CX k f fd ps sp := ⟨F.len, fun A outer s H args us vs Q E hg hr env b r p => F.run A outer s H args us vs Q E hg (hr.mono h) env b r p⟩
end RS
set_option Elab.async false
set_option linter.all false
set_option maxRecDepth 100000
/-! The data layer: tests, statements, loops, comprehensions, defs. -/
namespace RS
open PySem PySem.Spec PyProof.Rows L2
section
variable {X : Cx}
/-! ### tests -/
/-- the truth of data -/
def truD : D → (Bool → Prop) → Prop
  | .non, k => k false
  | .bl b, k => k b
  | .int i, k => k (i != 0)
  | .str x, k => x.length ≤ sizeLine ∧ k ((x.length : Int) != 0)
  | .tup ds, k => k (!ds.isEmpty)
  | .lst ds, k => k (!ds.isEmpty)
  | .obj _, _ => False
  | .dct _, _ => False
  | .tpf ds, k => k (!ds.isEmpty)
theorem isEmpty_rvs {K : PySem.W.Frag} {W : Wd} {vs : List V} {ds : List D} (h : Rvs K W vs ds) : ds.isEmpty = vs.isEmpty := by cases h <;> rfl
theorem truD_tru {K : PySem.W.Frag} {W : Wd} {v : V} {d : D} (r : Rv K W v d) {k : Bool → Prop} (h : truD d k) : ∃ b, TruV K v W.H b ∧ k b := by
  cases r with
  | non => exact ⟨_, rfl, h⟩
  | bl b => exact ⟨_, rfl, h⟩
  | int i => exact ⟨_, rfl, h⟩
  | str x => exact ⟨_, ⟨h.1, rfl⟩, h.2⟩
  | tup s r => exact ⟨_, .inr (.inl ⟨_, s.sq, rfl⟩), by rw [← isEmpty_rvs r]; exact h⟩
  | lst s r => exact ⟨_, .inl ⟨_, s.sq, rfl⟩, by rw [← isEmpty_rvs r]; exact h⟩
  | obj v => exact h.elim
  | dct _ => exact h.elim
  | tpf s r => exact ⟨_, .inr (.inl ⟨_, s.st.sq, rfl⟩), by rw [← isEmpty_rvs r]; exact h⟩
def wTru (wa : DW) : DTW := fun Γ M P => wa Γ M fun d M1 => truD d fun b => P b M1
theorem dt_val {e : Expr} {wa : DW} (h : DE X e wa) (he : ∀ whole, isTrue e X.env whole = (do let v ← whole; standAt e.pos; holding [v] (truthy v)) := by intro _; rfl) : DT X e (wTru wa) :=
  PT.imp (pt_truth h he) fun σ H Q q => by
  obtain ⟨Γ, W, P, rfl, c, w, k⟩ := q
  refine ⟨Γ, W, _, rfl, c, w, fun d W1 v w1 f1 k1 r1 => ?_⟩
  obtain ⟨b, t, z⟩ := truD_tru r1 w1
  exact ⟨b, t, k b W1 z f1 k1⟩
def wCmpT (g : G2) (wa wb : DW) : DTW := fun Γ M P => wa Γ M fun d1 M1 => wb Γ M1 fun d2 M2 => g d1 d2 M2 fun d M3 => ∃ b, d = .bl b ∧ P b M3
theorem dt_cmp {a b : Expr} {op : CmpOp} {pos : Pos} {g : G2} {wa wb : DW} (ho : OpD X (compareOp op) g) (ha : DE X a wa) (hb : DE X b wb) (hm : behindInMarks op b = false) :
    DT X (.Compare a [op] [b] pos) (wCmpT g wa wb) := PT.imp (pt_cmpR ho ha hb hm) fun σ H Q q => by
  obtain ⟨Γ, W, P, rfl, c, w, k⟩ := q
  refine ⟨Γ, W, _, rfl, c, w, fun d1 W1 x w1 f1 k1 r1 => ⟨Γ, W1, _, rfl, c.fr f1 k1, w1, fun d2 W2 y w2 f2 k2 r2 => ⟨W2, d1, d2, _, rfl, k2, r1.fr k1 f2, r2, w2, fun d W3 v w3 f3 k3 r3 => ?_⟩⟩⟩
  obtain ⟨bb, rfl, z⟩ := w3
  cases r3
  exact ⟨bb, rfl, k bb W3 z ((f1.trans f2).trans f3) k3⟩
def wNotT (wa : DTW) : DTW := fun Γ M P => wa Γ M fun b M1 => P (!b) M1
theorem dt_not {a : Expr} {pos : Pos} {wa : DTW} (ha : DT X a wa) : DT X (.UnaryOp .Not a pos) (wNotT wa) := PT.imp (pt_not ha) fun σ H Q q => by
  obtain ⟨Γ, W, P, rfl, c, w, k⟩ := q
  exact ⟨Γ, W, _, rfl, c, w, fun b W1 w1 f1 k1 => k (!b) W1 w1 f1 k1⟩
def wAndT (wa wb : DTW) : DTW := fun Γ M P => wa Γ M fun b M1 => if b = true then wb Γ M1 P else P false M1
def wOrT (wa wb : DTW) : DTW := fun Γ M P => wa Γ M fun b M1 => if b = true then P true M1 else wb Γ M1 P
theorem dt_and1 {a : Expr} {pos : Pos} {wa : DTW} (ha : DT X a wa) : DTw X (.BoolOp .And [a] pos) wa := pw_and1 ha
theorem dt_or1 {a : Expr} {pos : Pos} {wa : DTW} (ha : DT X a wa) : DTw X (.BoolOp .Or [a] pos) wa := pw_or1 ha
theorem dt_and {a b : Expr} {rest : List Expr} {pos : Pos} {wa wb : DTW} (ha : DT X a wa) (hb : DTw X (.BoolOp .And (b :: rest) pos) wb) : DTw X (.BoolOp .And (a :: b :: rest) pos) (wAndT wa wb) := PW.imp (pw_and ha hb) fun σ H Q q => by
  obtain ⟨Γ, W, P, rfl, c, w, k⟩ := q
  refine ⟨Γ, W, _, rfl, c, w, fun b W1 w1 f1 k1 => ?_⟩
  cases b with
  | true => exact ⟨Γ, W1, P, rfl, c.fr f1 k1, w1, fun b2 W2 w2 f2 k2 => k b2 W2 w2 (f1.trans f2) k2⟩
  | false => exact k false W1 w1 f1 k1
theorem dt_or {a b : Expr} {rest : List Expr} {pos : Pos} {wa wb : DTW} (ha : DT X a wa) (hb : DTw X (.BoolOp .Or (b :: rest) pos) wb) : DTw X (.BoolOp .Or (a :: b :: rest) pos) (wOrT wa wb) := PW.imp (pw_or ha hb) fun σ H Q q => by
  obtain ⟨Γ, W, P, rfl, c, w, k⟩ := q
  refine ⟨Γ, W, _, rfl, c, w, fun b W1 w1 f1 k1 => ?_⟩
  cases b with
  | false => exact ⟨Γ, W1, P, rfl, c.fr f1 k1, w1, fun b2 W2 w2 f2 k2 => k b2 W2 w2 (f1.trans f2) k2⟩
  | true => exact k true W1 w1 f1 k1
/-- values by truth -/
def wAndV (wa wb : DW) : DW := fun Γ M P => wa Γ M fun d M1 => truD d fun b => if b = true then wb Γ M1 P else P d M1
def wNotV (wa : DW) : DW := fun Γ M P => wa Γ M fun d M1 => truD d fun b => P (.bl (!b)) M1
theorem de_one {op} {a : Expr} {pos : Pos} {wa : DW} (h : DE X a wa) : DE X (.BoolOp op [a] pos) wa := pe_one h
theorem de_and {a b : Expr} {rest : List Expr} {pos : Pos} {wa wb : DW} (ha : DE X a wa) (hb : DE X (.BoolOp .And (b :: rest) pos) wb) : DE X (.BoolOp .And (a :: b :: rest) pos) (wAndV wa wb) := PE.imp (pe_andT ha hb) fun σ H Q q => by
  obtain ⟨Γ, W, P, rfl, c, w, k⟩ := q
  refine ⟨Γ, W, _, rfl, c, w, fun d W1 v w1 f1 k1 r1 => ?_⟩
  obtain ⟨b, t, z⟩ := truD_tru r1 w1
  refine ⟨b, t, ?_⟩
  cases b with
  | true => exact ⟨Γ, W1, P, rfl, c.fr f1 k1, z, k.fr f1⟩
  | false => exact k d W1 v z f1 k1 r1
theorem de_not {a : Expr} {pos : Pos} {wa : DW} (ha : DE X a wa) : DE X (.UnaryOp .Not a pos) (wNotV wa) := PE.imp (pe_notT ha) fun σ H Q q => by
  obtain ⟨Γ, W, P, rfl, c, w, k⟩ := q
  refine ⟨Γ, W, _, rfl, c, w, fun d W1 v w1 f1 k1 r1 => ?_⟩
  obtain ⟨b, t, z⟩ := truD_tru r1 w1
  exact ⟨b, t, k _ W1 _ z f1 k1 (.bl _)⟩
def wIfE (wt : DTW) (wa wb : DW) : DW := fun Γ M P => wt Γ M fun b M1 => if b = true then wa Γ M1 P else wb Γ M1 P
theorem de_ifExp {t a b : Expr} {pos : Pos} {wt : DTW} {wa wb : DW} (ht : DT X t wt) (ha : DE X a wa) (hb : DE X b wb) : DE X (.IfExp t a b pos) (wIfE wt wa wb) := PE.imp (pe_ifExp ht ha hb) fun σ H Q q => by
  obtain ⟨Γ, W, P, rfl, c, w, k⟩ := q
  refine ⟨Γ, W, _, rfl, c, w, fun b W1 w1 f1 k1 => ?_⟩
  cases b with
  | true => exact ⟨Γ, W1, P, rfl, c.fr f1 k1, w1, k.fr f1⟩
  | false => exact ⟨Γ, W1, P, rfl, c.fr f1 k1, w1, k.fr f1⟩
/-- a op b op' c -/
def wChainE (g g' : G2) (wa wb wc : DW) : DW := fun Γ M P => wa Γ M fun d1 M1 => wb Γ M1 fun d2 M2 => g d1 d2 M2 fun d M3 => ∃ b, d = .bl b ∧ if b = true then wc Γ M3 fun d3 M4 => g' d2 d3 M4 P else P (.bl false) M3
def wChain (g g' : G2) (wa wb wc : DW) : DTW := fun Γ M P => wChainE g g' wa wb wc Γ M fun e M5 => ∃ b', e = .bl b' ∧ P b' M5
theorem chain_lift {K : PySem.W.Frag} {g g' : G2} {wa wb wc : DW} {σ : L2.St} {H : Hp} {Q : VK} (q : lift K (wChainE g g' wa wb wc) σ H Q) : tChain (rD2 K g) (rD2 K g') (lift K wa) (lift K wb) (lift K wc) σ H Q := by
  obtain ⟨Γ, W, P, rfl, c, w, k⟩ := q
  refine ⟨Γ, W, _, rfl, c, w, fun d1 W1 x w1 f1 k1 r1 => ⟨Γ, W1, _, rfl, c.fr f1 k1, w1, fun d2 W2 y w2 f2 k2 r2 => ⟨W2, d1, d2, _, rfl, k2, r1.fr k1 f2, r2, w2, fun d W3 v w3 f3 k3 r3 => ?_⟩⟩⟩
  obtain ⟨bb, rfl, z⟩ := w3
  cases r3
  refine ⟨bb, rfl, ?_⟩
  cases bb with
  | false => exact k _ W3 _ z ((f1.trans f2).trans f3) k3 (.bl _)
  | true =>
    exact ⟨Γ, W3, _, rfl, c.fr ((f1.trans f2).trans f3) k3, z, fun d3 W4 u w4 f4 k4 r4 => ⟨W4, d2, d3, _, rfl, k4, (r2.fr k2 f3).fr k3 f4, r4, w4, k.fr (((f1.trans f2).trans f3).trans f4)⟩⟩
theorem de_chain {a b e : Expr} {op op' : CmpOp} {pos : Pos} {g g' : G2} {wa wb wc : DW} (ho : OpD X (compareOp op) g) (ho' : OpD X (compareOp op') g') (ha : DE X a wa) (hb : DE X b wb) (hc : DE X e wc)
    (hm : lastMarks [op, op'] [b, e] = false := by with_unfolding_all rfl) : DE X (.Compare a [op, op'] [b, e] pos) (wChainE g g' wa wb wc) := PE.imp (pe_chain ho ho' ha hb hc hm) fun _ _ _ q => chain_lift q
theorem dt_chain {a b e : Expr} {op op' : CmpOp} {pos : Pos} {g g' : G2} {wa wb wc : DW} (ho : OpD X (compareOp op) g) (ho' : OpD X (compareOp op') g') (ha : DE X a wa) (hb : DE X b wb) (hc : DE X e wc)
    (hm : lastMarks [op, op'] [b, e] = false := by with_unfolding_all rfl) : DT X (.Compare a [op, op'] [b, e] pos) (wChain g g' wa wb wc) := PT.imp (pt_chain ho ho' ha hb hc hm) fun σ H Q q => by
  obtain ⟨Γ, W, P, rfl, c, w, k⟩ := q
  refine chain_lift ⟨Γ, W, _, rfl, c, w, fun d W1 v w1 f1 k1 r1 => ?_⟩
  obtain ⟨b, rfl, z⟩ := w1
  cases r1
  exact ⟨b, rfl, k b W1 z f1 k1⟩
/-! ### statements -/
structure DEnds where
  nx : DG → Mem → Prop
  rt : DK
  bk : DG → Mem → Prop := fun _ _ => False
  ct : DG → Mem → Prop := fun _ _ => False
  /-- an exception: its class by name, its fields -/
  ex : DG → Str → List (Str × D) → Mem → Prop := fun _ _ _ _ => False
abbrev ends (P : DK) : DEnds := ⟨fun _ M' => P .non M', P, fun _ _ => False, fun _ _ => False, fun _ _ _ _ => False⟩
abbrev lawEnds : DEnds := ⟨fun _ _ => False, fun r _ => r = .bl true, fun _ _ => False, fun _ _ => False, fun _ _ _ _ => False⟩
abbrev DS := DEnds → DG → Mem → Prop
/-- what is wished of an exception: its class by name, its dict, the slots, the heap -/
abbrev VX := Str → Option Addr → L2.St → Hp → Prop
def VF : VX := fun _ _ _ _ => False
/-- the fields of an exception -/
def ExO (K : PySem.W.Frag) (W : Wd) (d : Option Addr) (fs : List (Str × D)) : Prop := match d with
  | none => fs = []
  | some a => ∃ gs, W.H a = some (.xd gs) ∧ W.M a = none ∧ W.N a ∧ Rfs K W gs fs
theorem ExO.fr {K : PySem.W.Frag} {W W' : Wd} {d : Option Addr} {fs : List (Str × D)} (h : ExO K W d fs) (k : Ok K W) (f : Fr W W') : ExO K W' d fs := by
  cases d with
  | none => exact h
  | some a =>
    obtain ⟨gs, h1, h2, h4, h3⟩ := h
    obtain ⟨x1, x2, x3⟩ := f _ _ h2 h1
    exact ⟨gs, x1, x2, x3.mpr h4, h3.fr k f⟩
/-- new since W -/
def Fresh (W : Wd) (d : Option Addr) : Prop := ∀ a, d = some a → W.M a = none → W.H a = none
theorem Fresh.fr {W W1 : Wd} {d : Option Addr} (h : Fresh W1 d) (f : Fr W W1) : Fresh W d := fun a e m => by
  cases z : W.H a with
  | none => rfl
  | some o =>
    obtain ⟨x1, x2, _⟩ := f a o m z
    rw [h a e x2] at x1
    cases x1
structure CE (K : PySem.W.Frag) (Vx : VX) (W : Wd) (F : DEnds) (E : Ends) : Prop where
  nx : ∀ Γ' W' σ', F.nx Γ' W'.M → Fr W W' → Cn K Γ' W' σ' → E.nx σ' W'.H
  rt : Cont K W F.rt E.rt
  bk : ∀ Γ' W' σ', F.bk Γ' W'.M → Fr W W' → Cn K Γ' W' σ' → E.bk σ' W'.H
  ct : ∀ Γ' W' σ', F.ct Γ' W'.M → Fr W W' → Cn K Γ' W' σ' → E.ct σ' W'.H
  ex : ∀ Γ' W' σ' n fs d, F.ex Γ' n fs W'.M → Fr W W' → Cn K Γ' W' σ' → ExO K W' d fs → Fresh W d → Vx n d σ' W'.H
theorem CE.fr {Vx : VX} {K : PySem.W.Frag} {W W1 : Wd} {F : DEnds} {E : Ends} (c : CE K Vx W F E) (f : Fr W W1) : CE K Vx W1 F E :=
  ⟨fun Γ' W' σ' p g c' => c.nx Γ' W' σ' p (f.trans g) c', c.rt.fr f, fun Γ' W' σ' p g c' => c.bk Γ' W' σ' p (f.trans g) c', fun Γ' W' σ' p g c' => c.ct Γ' W' σ' p (f.trans g) c', fun Γ' W' σ' n fs d p g c' x y => c.ex Γ' W' σ' n fs d p (f.trans g) c' x (y.fr f)⟩
def liftS (K : PySem.W.Frag) (Vx : VX) (w : DS) : TS := fun E σ H => ∃ Γ W F, W.H = H ∧ Cn K Γ W σ ∧ w F Γ W.M ∧ CE K Vx W F E
def DSt (X : Cx) (Vx : VX) (st : Stmt) (w : DS) : Prop := PS X st (liftS X.K Vx w)
def DSs (X : Cx) (Vx : VX) (st : List Stmt) (w : DS) : Prop := PSs X st (liftS X.K Vx w)
variable {Vx : VX}
def wNext : DS := fun F Γ M => F.nx Γ M
def wSeq (t u : DS) : DS := fun F Γ M => t { F with nx := u F } Γ M
theorem ds_nil : DSs X Vx [] wNext := PSs.imp pss_nil fun E σ H q => by
  obtain ⟨Γ, W, F, rfl, c, w, k⟩ := q
  exact k.nx Γ W σ w (Fr.refl W) c
theorem ds_one {st : Stmt} {w : DS} (h : DSt X Vx st w) : DSs X Vx [st] w := pss_one h
theorem ds_cons {st : Stmt} {rest : List Stmt} {w u : DS} (h : DSt X Vx st w) (h2 : DSs X Vx rest u) : DSs X Vx (st :: rest) (wSeq w u) := PSs.imp (pss_cons h h2) fun E σ H q => by
  obtain ⟨Γ, W, F, rfl, c, w, k⟩ := q
  exact ⟨Γ, W, _, rfl, c, w, ⟨fun Γ' W' σ' p f c' => ⟨Γ', W', F, rfl, c', p, k.fr f⟩, k.rt, k.bk, k.ct, k.ex⟩⟩
def wNever : DS := fun _ _ _ => False
theorem ds_never {st : Stmt} : DSt X Vx st wNever := PS.imp ps_never fun E σ H q => by
  obtain ⟨Γ, W, F, _, _, w, _⟩ := q
  exact w
def wDrop (we : DW) : DS := fun F Γ M => we Γ M fun _ M1 => F.nx Γ M1
theorem ds_expr {e : Expr} {pos : Pos} {we : DW} (h : DE X e we) (hs : swapsWith e none pos.line X.env = pure false := by rfl) : DSt X Vx (.Expr e pos) (wDrop we) := PS.imp (ps_expr h hs) fun E σ H q => by
  obtain ⟨Γ, W, F, rfl, c, w, k⟩ := q
  exact ⟨Γ, W, _, rfl, c, w, fun d W1 v w1 f1 k1 r1 => k.nx Γ W1 σ w1 f1 (c.fr f1 k1)⟩
def wRet (we : DW) : DS := fun F Γ M => we Γ M F.rt
theorem ds_ret {e : Expr} {pos : Pos} {we : DW} (h : DE X e we) : DSt X Vx (.Return (some e) pos) (wRet we) := PS.imp (ps_ret h) fun E σ H q => by
  obtain ⟨Γ, W, F, rfl, c, w, k⟩ := q
  exact ⟨Γ, W, _, rfl, c, w, k.rt⟩
def wIf (wt : DTW) (t u : DS) : DS := fun F Γ M => wt Γ M fun b M1 => if b = true then t F Γ M1 else u F Γ M1
theorem ds_if {t : Expr} {a b : List Stmt} {pos : Pos} {wt : DTW} {wa wb : DS} (ht : DT X t wt) (ha : DSs X Vx a wa) (hb : DSs X Vx b wb) : DSt X Vx (.If t a b pos) (wIf wt wa wb) := PS.imp (ps_if ht ha hb) fun E σ H q => by
  obtain ⟨Γ, W, F, rfl, c, w, k⟩ := q
  refine ⟨Γ, W, _, rfl, c, w, fun b W1 w1 f1 k1 => ?_⟩
  cases b with
  | true => exact ⟨Γ, W1, F, rfl, c.fr f1 k1, w1, k.fr f1⟩
  | false => exact ⟨Γ, W1, F, rfl, c.fr f1 k1, w1, k.fr f1⟩
/-! ### targets -/
inductive Tg where
  | nm (i : Nat) | tp (ts : List Tg)
def gSq (K : PySem.W.Frag) (n : Nat) (t : TGs) : TG := fun v σ H Q => gTup K n t v σ H Q ∨ gLst K n t v σ H Q
theorem pg_sq {es : List Expr} {k : Nat} {t : TGs} {n : Nat} {pos : Pos} (hc : X.calm = true) (h : PGs X es t) (hn : (assignEach es X.env).length = n := by rfl) (hst : (assignEach es X.env).findIdx? (·.1) = none := by rfl) :
    PG X (.Tuple es k pos) (gSq X.K n t) := ⟨fun pins s σ H v u Q I r q => q.elim ((pg_tup hc h hn hst).run pins s σ H v u Q I r) ((pg_lst hc h hn hst).run pins s σ H v u Q I r)⟩
mutual
def tgT (K : PySem.W.Frag) : Tg → TG
  | .nm i => gName i
  | .tp ts => gSq K ts.length (tgTs K ts)
def tgTs (K : PySem.W.Frag) : List Tg → TGs
  | [] => gNil
  | t :: ts => gCons (tgT K t) (tgTs K ts)
end
mutual
def tgD : Tg → D → DG → Option DG
  | .nm i, d, Γ => some (Γ.set i (some d))
  | .tp ts, .tup ds, Γ => tgDs ts ds Γ
  | .tp ts, .lst ds, Γ => tgDs ts ds Γ
  | .tp _, _, _ => none
def tgDs : List Tg → List D → DG → Option DG
  | [], [], Γ => some Γ
  | t :: ts, d :: ds, Γ => (tgD t d Γ).bind fun Γ1 => tgDs ts ds Γ1
  | _, _, _ => none
end
mutual
def Tg.slots : Tg → List Nat
  | .nm i => [i]
  | .tp ts => Tg.slotsAll ts
def Tg.slotsAll : List Tg → List Nat
  | [] => []
  | t :: ts => t.slots ++ Tg.slotsAll ts
end
theorem wipe_set {σ : L2.St} {x : Option V} : ∀ {vs : List Nat} {i : Nat}, i ∈ vs → wipe (σ.set i x) vs = wipe σ vs
  | [], i, h => by cases h
  | v :: vs, i, h => by
    unfold wipe
    by_cases hi : i ∈ vs
    · rw [wipe_set hi]
    · have e : i = v := by
        rcases List.mem_cons.mp h with h | h
        · exact h
        · exact absurd h hi
      subst e
      clear h
      have : ∀ (us : List Nat), i ∉ us → wipe (σ.set i x) us = (wipe σ us).set i x := by
        intro us
        induction us with
        | nil => intro _; rfl
        | cons u us ih =>
          intro hu
          simp only [List.mem_cons, not_or] at hu
          unfold wipe
          rw [ih hu.2, List.set_comm _ _ hu.1]
      rw [this vs hi, List.set_set]
theorem wipe_wipe (σ : L2.St) (vs : List Nat) : ∀ us : List Nat, (∀ u ∈ us, u ∈ vs) → wipe (wipe σ us) vs = wipe σ vs
  | [], _ => rfl
  | u :: us, h => by
    show wipe ((wipe σ us).set u none) vs = _
    rw [wipe_set (h u List.mem_cons_self), wipe_wipe σ vs us fun x hx => h x (List.mem_cons_of_mem _ hx)]
mutual
theorem tg_ok {K : PySem.W.Frag} {W : Wd} : ∀ (t : Tg) {d : D} {v : V} {Γ Γ1 : DG} {σ : L2.St} {Q : L2.St → Hp → Prop}, Cn K Γ W σ → Rv K W v d → tgD t d Γ = some Γ1 →
    (∀ σ1, Cn K Γ1 W σ1 → (∀ vs : List Nat, (∀ i ∈ t.slots, i ∈ vs) → wipe σ1 vs = wipe σ vs) → Q σ1 W.H) → tgT K t v σ W.H Q
  | .nm i, d, v, Γ, Γ1, σ, Q, c, r, e, q => by
    simp only [tgD] at e
    cases e
    simp only [tgT]
    exact q _ (c.set i r) fun vs hv => wipe_set (hv i (by simp [Tg.slots]))
  | .tp ts, d, v, Γ, Γ1, σ, Q, c, r, e, q => by
    cases d with
    | tup ds =>
      simp only [tgD] at e
      cases r with
      | tup st rs =>
        rename_i vs
        simp only [tgT]
        refine .inl ⟨_, vs, rfl, st.sq, ?_, tgs_ok ts c rs e fun σ1 c1 hw => q σ1 c1 fun us hu => hw us (by simpa [Tg.slots] using hu)⟩
        rw [rs.length]
        exact tgs_len ts e
    | lst ds =>
      simp only [tgD] at e
      cases r with
      | lst st rs =>
        rename_i vs
        simp only [tgT]
        refine .inr ⟨_, vs, rfl, st.sq, ?_, tgs_ok ts c rs e fun σ1 c1 hw => q σ1 c1 fun us hu => hw us (by simpa [Tg.slots] using hu)⟩
        rw [rs.length]
        exact tgs_len ts e
    | _ => simp only [tgD] at e; cases e
theorem tgs_ok {K : PySem.W.Frag} {W : Wd} : ∀ (ts : List Tg) {ds : List D} {vs : List V} {Γ Γ1 : DG} {σ : L2.St} {Q : L2.St → Hp → Prop}, Cn K Γ W σ → Rvs K W vs ds → tgDs ts ds Γ = some Γ1 →
    (∀ σ1, Cn K Γ1 W σ1 → (∀ us : List Nat, (∀ i ∈ Tg.slotsAll ts, i ∈ us) → wipe σ1 us = wipe σ us) → Q σ1 W.H) → tgTs K ts vs σ W.H Q
  | [], ds, vs, Γ, Γ1, σ, Q, c, r, e, q => by
    cases r with
    | nil =>
      simp only [tgDs] at e
      cases e
      simp only [tgTs]
      exact ⟨rfl, q σ c fun _ _ => rfl⟩
    | cons _ _ =>
      simp only [tgDs] at e
      cases e
  | t :: ts, ds, vs, Γ, Γ1, σ, Q, c, r, e, q => by
    cases r with
    | nil =>
      simp only [tgDs] at e
      cases e
    | cons r1 r2 =>
      simp only [tgDs] at e
      rename_i v vs d ds
      cases e1 : tgD t d Γ with
      | none =>
        rw [e1] at e
        cases e
      | some Γ2 =>
        rw [e1] at e
        have e2 : tgDs ts ds Γ2 = some Γ1 := e
        simp only [tgTs]
        refine ⟨v, vs, rfl, tg_ok t c r1 e1 fun σ2 c2 hw => tgs_ok ts c2 r2 e2 fun σ3 c3 hw3 => q σ3 c3 fun us hu => ?_⟩
        rw [hw3 us (fun i hi => hu i (by simp [Tg.slotsAll, hi])), hw us (fun i hi => hu i (by simp [Tg.slotsAll, hi]))]
theorem tgs_len : ∀ (ts : List Tg) {ds : List D} {Γ Γ1 : DG}, tgDs ts ds Γ = some Γ1 → ds.length = ts.length
  | [], [], _, _, _ => rfl
  | [], _ :: _, _, _, e => by simp only [tgDs] at e; cases e
  | _ :: _, [], _, _, e => by simp only [tgDs] at e; cases e
  | t :: ts, d :: ds, Γ, Γ1, e => by
    simp only [tgDs] at e
    cases e1 : tgD t d Γ with
    | none => rw [e1] at e; cases e
    | some Γ2 =>
      rw [e1] at e
      have e2 : tgDs ts ds Γ2 = some Γ1 := e
      simp [tgs_len ts e2]
end
def wAsg (we : DW) (t : Tg) : DS := fun F Γ M => we Γ M fun d M1 => ∃ Γ1, tgD t d Γ = some Γ1 ∧ F.nx Γ1 M1
theorem asg_lift {K : PySem.W.Frag} {we : DW} {t : Tg} {E : Ends} {σ : L2.St} {H : Hp} (q : liftS K Vx (wAsg we t) E σ H) : tAsg (lift K we) (tgT K t) E σ H := by
  obtain ⟨Γ, W, F, rfl, c, w, k⟩ := q
  refine ⟨Γ, W, _, rfl, c, w, fun d W1 v w1 f1 k1 r1 => ?_⟩
  obtain ⟨Γ1, e1, w1⟩ := w1
  exact tg_ok t (c.fr f1 k1) r1 e1 fun σ1 c1 _ => k.nx Γ1 W1 σ1 w1 f1 c1
theorem ds_asg {st : Stmt} {we : DW} {t : Tg} (h : PS X st (tAsg (lift X.K we) (tgT X.K t))) : DSt X Vx st (wAsg we t) := PS.imp h fun E σ H q => asg_lift q
def wSet (i : Nat) (we : DW) : DS := fun F Γ M => we Γ M fun d M1 => F.nx (Γ.set i (some d)) M1
theorem set_lift {K : PySem.W.Frag} {we : DW} {i : Nat} {E : Ends} {σ : L2.St} {H : Hp} (q : liftS K Vx (wSet i we) E σ H) : tAsg (lift K we) (gName i) E σ H := by
  obtain ⟨Γ, W, F, rfl, c, w, k⟩ := q
  exact ⟨Γ, W, _, rfl, c, w, fun d W1 v w1 f1 k1 r1 => k.nx _ W1 _ w1 f1 ((c.fr f1 k1).set i r1)⟩
theorem ds_set {st : Stmt} {we : DW} {i : Nat} (h : PS X st (tAsg (lift X.K we) (gName i))) : DSt X Vx st (wSet i we) := PS.imp h fun E σ H q => set_lift q
def wPar (i j : Nat) (wa : DAW) : DS := fun F Γ M => wa Γ M fun ds M1 => match ds with
  | [d, e] => F.nx ((Γ.set i (some d)).set j (some e)) M1
  | _ => False
theorem ds_par {st : Stmt} {i j : Nat} {wa : DAW} (h : PS X st (tPar i j (liftA X.K wa))) : DSt X Vx st (wPar i j wa) := PS.imp h fun E σ H q => by
  obtain ⟨Γ, W, F, rfl, c, w, k⟩ := q
  refine ⟨Γ, W, _, rfl, c, w, fun ds W1 vs w1 f1 k1 r1 => ?_⟩
  match ds, vs, r1, w1 with
  | [d, e], _, .cons a (.cons b .nil), w1 => exact ⟨_, _, rfl, k.nx _ W1 _ w1 f1 (((c.fr f1 k1).set i a).set j b)⟩
/-! ### what is walked -/
abbrev DIW := DG → Mem → (List D → Mem → Prop) → Prop
/-- J gives the items one after another, as long as what is not in M stays -/
structure WalkD (K : PySem.W.Frag) (J : It) (items : List D) (W : Wd) : Prop where
  go : ∀ i W1, i < items.length → Fr W W1 → Ok K W1 → J.go i W1.H
  stop : ∀ W1, Fr W W1 → Ok K W1 → J.stop items.length W1.H
  yld : ∀ i W1 x H2, i < items.length → Fr W W1 → Ok K W1 → J.yld i W1.H x H2 → ∃ d W2, items[i]? = some d ∧ W2.H = H2 ∧ W2.M = W1.M ∧ Fr W1 W2 ∧ Ok K W2 ∧ Rv K W2 x d
def liftI (K : PySem.W.Frag) (wi : DIW) : TI := fun σ H R => ∃ Γ W P, W.H = H ∧ Cn K Γ W σ ∧ wi Γ W.M P ∧ ∀ items W' J, P items W'.M → Fr W W' → Ok K W' → WalkD K J items W' → R J W'.H
def DI (X : Cx) (tg iter : Expr) (wi : DIW) : Prop := PI X tg iter (liftI X.K wi)
theorem PI.imp {tg e : Expr} {t t' : TI} (h : PI X tg e t) (m : ∀ σ H R, t' σ H R → t σ H R) : PI X tg e t' := ⟨fun pins s σ H R I q => h.run pins s σ H R I (m σ H R q)⟩
def forD (t : Tg) (wb : DS) (F : DEnds) : List D → DG → Mem → Prop
  | [], Γ, M => F.nx Γ M
  | d :: ds, Γ, M => ∃ Γ1, tgD t d Γ = some Γ1 ∧ wb { F with nx := forD t wb F ds, ct := forD t wb F ds, bk := F.nx } Γ1 M
def wFor (wi : DIW) (t : Tg) (wb : DS) : DS := fun F Γ M => wi Γ M fun items M1 => forD t wb F items Γ M1
theorem drop_get {items : List D} {i : Nat} (h : i < items.length) : items.drop i = items[i] :: items.drop (i + 1) := List.drop_eq_getElem_cons h
theorem ds_for {tg iter : Expr} {body : List Stmt} {pos : Pos} {wi : DIW} {t : Tg} {wb : DS} (h : PS X (.For tg iter body [] pos) (tFor (liftI X.K wi) (tgT X.K t) (liftS X.K Vx wb))) : DSt X Vx (.For tg iter body [] pos) (wFor wi t wb) := PS.imp h fun E σ H q => by
  obtain ⟨Γ, W, F, rfl, c, w, k⟩ := q
  refine ⟨Γ, W, _, rfl, c, w, fun items W1 J w1 f1 k1 wk => ?_⟩
  refine ⟨fun i m σ H => m = items.length - i ∧ i ≤ items.length ∧ ∃ Γ W2, W2.H = H ∧ Cn X.K Γ W2 σ ∧ Fr W1 W2 ∧ forD t wb F (items.drop i) Γ W2.M, ⟨items.length, by simp, Nat.zero_le _, Γ, W1, rfl, c.fr f1 k1, Fr.refl W1, w1⟩, ?_⟩
  rintro i m σ H ⟨rfl, hi, Γ, W2, rfl, c2, f2, w2⟩
  by_cases hlt : i < items.length
  · rw [drop_get hlt] at w2
    obtain ⟨Γ1, e1, w3⟩ := w2
    refine .inr ⟨wk.go i W2 hlt f2 c2.ok, _, fun σ' H' p => ⟨items.length - (i + 1), by omega, rfl, hlt, p⟩, fun x H' y => ?_⟩
    obtain ⟨d, W3, hd, rfl, eM, f3, k3, r3⟩ := wk.yld i W2 x H' hlt f2 c2.ok y
    rw [List.getElem?_eq_getElem hlt] at hd
    cases hd
    refine tg_ok t (c2.fr f3 k3) r3 e1 fun σ1 c1 _ => ⟨Γ1, W3, _, rfl, c1, by rw [eM]; exact w3, ?_⟩
    have f13 : Fr W W3 := (f1.trans f2).trans f3
    refine ⟨fun Γ' W' σ' p f c' => ⟨Γ', W', rfl, c', (f2.trans f3).trans f, p⟩, k.rt.fr f13, fun Γ' W' σ' p f c' => k.nx Γ' W' σ' p (f13.trans f) c', fun Γ' W' σ' p f c' => ⟨Γ', W', rfl, c', (f2.trans f3).trans f, p⟩, fun Γ' W' σ' n fs d p f c' x y => k.ex Γ' W' σ' n fs d p (f13.trans f) c' x (y.fr f13)⟩
  · have e : i = items.length := by omega
    subst e
    rw [List.drop_length] at w2
    exact .inl ⟨wk.stop W2 f2 c2.ok, k.nx Γ W2 σ w2 (f1.trans f2) c2⟩
/-! ### comprehensions -/
def Wd.hide (W : Wd) (p : Addr) (o : HO) : Wd := ⟨W.M, fun a => W.N a ∨ a = p, upd W.H p o⟩
theorem MOk.carry {K : PySem.W.Frag} {W W' : Wd} (c : Carry K W W') {a : Addr} {m : MO} (h : MOk K W a m) (e : W'.H a = W.H a) : MOk K W' a m := by
  cases m with
  | raw o =>
    show W'.H a = _
    rw [e]
    exact h
  | dl ds =>
    obtain ⟨vs, h1, h2⟩ := h
    exact ⟨vs, by rw [e]; exact h1, Rvs.carry c _ _ h2⟩
  | ins C dx fs =>
    obtain ⟨gs, h1, h2⟩ := h
    exact ⟨gs, by rw [e]; exact h1, h2.carry c⟩
  | xd fs =>
    obtain ⟨gs, h1, h2⟩ := h
    exact ⟨gs, by rw [e]; exact h1, h2.carry c⟩
theorem Fr.hide {W : Wd} {p : Addr} {o : HO} (n : W.H p = none) : Fr W (W.hide p o) := fun a u h1 h2 => by
  have hne : a ≠ p := ne_of_none h2 n
  exact ⟨by show upd W.H p o a = _; rw [upd_ne hne]; exact h2, h1, ⟨fun z => z.elim id fun e => absurd e hne, fun z => .inl z⟩⟩
theorem Ok.hide {K : PySem.W.Frag} {W : Wd} {p : Addr} {o : HO} (k : Ok K W) (n : W.H p = none) : Ok K (W.hide p o) := ⟨fun a u e => by
  obtain ⟨h1, h2⟩ := k.m a u e
  obtain ⟨z, hz⟩ := h2.there
  exact ⟨.inl h1, h2.fr k (Fr.hide n) (upd_ne (ne_of_none hz n))⟩⟩
/-- the hidden list at L is another one now -/
theorem hid_carry {K : PySem.W.Frag} {W : Wd} {L : Addr} {o : HO} (n : W.N L) : Carry K W ⟨W.M, W.N, upd W.H L o⟩ := ⟨fun {a u} h z => by
  have hne : a ≠ L := by
    rintro rfl
    exact z n
  exact ⟨by show upd W.H L _ a = _; rw [upd_ne hne]; exact h, z⟩⟩
theorem hid_ok {K : PySem.W.Frag} {W : Wd} {L : Addr} {o : HO} (k : Ok K W) (n : W.N L) (m : W.M L = none) : Ok K ⟨W.M, W.N, upd W.H L o⟩ := ⟨fun a u e => by
  have e' : W.M a = some u := e
  obtain ⟨h1, h2⟩ := k.m a u e'
  have hne : a ≠ L := by
    rintro rfl
    rw [m] at e'
    cases e'
  exact ⟨h1, h2.carry (hid_carry n) (upd_ne hne)⟩⟩
/-- it is data from now on -/
theorem bare_carry {K : PySem.W.Frag} {W : Wd} {L : Addr} : Carry K W ⟨W.M, fun a => W.N a ∧ a ≠ L, W.H⟩ := ⟨fun h n => ⟨h, fun z => n z.1⟩⟩
theorem bare_ok {K : PySem.W.Frag} {W : Wd} {L : Addr} (k : Ok K W) (m : W.M L = none) : Ok K ⟨W.M, fun a => W.N a ∧ a ≠ L, W.H⟩ := ⟨fun a u e => by
  have e' : W.M a = some u := e
  obtain ⟨h1, h2⟩ := k.m a u e'
  have hne : a ≠ L := by
    rintro rfl
    rw [m] at e'
    cases e'
  exact ⟨⟨h1, hne⟩, h2.carry bare_carry rfl⟩⟩
/-- a new list that nothing else holds -/
abbrev DOwn := DG → Mem → (List D → Mem → Prop) → Prop
def liftOwn (K : PySem.W.Frag) (w : DOwn) : TE := fun σ H Q => ∃ Γ W P, W.H = H ∧ Cn K Γ W σ ∧ w Γ W.M P ∧
  ∀ ds W' L vs, P ds W'.M → Fr W W' → Ok K W' → (W.M L = none → W.H L = none) → W'.H L = some (.lst vs) → W'.N L → W'.M L = none → Rvs K W' vs ds → Q (.ref L) W'.H
def lcO (t : Tg) (wt : DTW) (we : DW) (Γ : DG) (P : List D → Mem → Prop) : List D → List D → Mem → Prop
  | [], acc, M => P acc M
  | d :: ds, acc, M => ∃ Γ1, tgD t d Γ = some Γ1 ∧ wt Γ1 M fun b M1 => if b = true then we Γ1 M1 fun y M2 => lcO t wt we Γ P ds (acc ++ [y]) M2 else lcO t wt we Γ P ds acc M1
def wLcO (wi : DIW) (t : Tg) (wt : DTW) (we : DW) (vs : List Nat) : DOwn := fun Γ M P => wi Γ M fun items M1 => items.length ≤ 1000000 ∧ (t.slots.all fun i => vs.contains i) = true ∧ lcO t wt we (wipeD Γ vs) P items [] M1
def wLc (wi : DIW) (t : Tg) (wt : DTW) (we : DW) (vs : List Nat) : DW := fun Γ M P => wLcO wi t wt we vs Γ M fun ds M1 => P (.lst ds) M1
theorem lc_own {K : PySem.W.Frag} {wi : DIW} {t : Tg} {wt : DTW} {we : DW} {vs : List Nat} {σ : L2.St} {H : Hp} {Q : VK} (q : liftOwn K (wLcO wi t wt we vs) σ H Q) :
    tLc (liftI K wi) (tgT K t) (liftT K wt) (lift K we) vs σ H Q := by
  obtain ⟨Γ, W, P, rfl, c, w, k⟩ := q
  refine ⟨Γ, W, _, rfl, c, w, fun items W1 J w1 f1 k1 wk => fun L nL => ?_⟩
  obtain ⟨hlen, hsl, w1⟩ := w1
  have hsl' : ∀ i ∈ t.slots, i ∈ vs := fun i hi => by
    have := List.all_eq_true.mp hsl i hi
    simpa using this
  have cw := (c.fr f1 k1).wipe vs
  refine ⟨fun i m H => m = items.length - i ∧ i ≤ items.length ∧ ∃ (W2 : Wd) (acc : List V) (ds : List D), W2.H = H ∧ Ok K W2 ∧ Fr W1 W2 ∧ W2.H L = some (.lst acc) ∧ W2.N L ∧ W2.M L = none ∧ acc.length ≤ i ∧ Rvs K W2 acc ds ∧
    lcO t wt we (wipeD Γ vs) P (items.drop i) ds W2.M, ⟨items.length, by simp, Nat.zero_le _, W1.hide L (.lst []), [], [], rfl, k1.hide nL, Fr.hide nL, upd_same, .inr rfl, k1.nil_ nL, Nat.le_refl _, .nil, w1⟩, ?_⟩
  rintro i m H ⟨rfl, hi, W2, acc, ds, rfl, k2, f2, eL, nN, mN, hacc, r2, w2⟩
  by_cases hlt : i < items.length
  · rw [drop_get hlt] at w2
    obtain ⟨Γ1, e1, w3⟩ := w2
    refine .inr ⟨wk.go i W2 hlt f2 k2, fun H' => i + 1 ≤ items.length ∧ ∃ (W2 : Wd) (acc : List V) (ds : List D), W2.H = H' ∧ Ok K W2 ∧ Fr W1 W2 ∧ W2.H L = some (.lst acc) ∧ W2.N L ∧ W2.M L = none ∧ acc.length ≤ i + 1 ∧ Rvs K W2 acc ds ∧
      lcO t wt we (wipeD Γ vs) P (items.drop (i + 1)) ds W2.M, fun H' p => ⟨items.length - (i + 1), by omega, rfl, p⟩, fun x H' y => ?_⟩
    obtain ⟨d, W3, hd, rfl, eM, f3, k3, r3⟩ := wk.yld i W2 x H' hlt f2 k2 y
    rw [List.getElem?_eq_getElem hlt] at hd
    cases hd
    obtain ⟨eL3, mN3, nN3⟩ := f3 L _ mN eL
    refine tg_ok t (cw.fr (f2.trans f3) k3) r3 e1 fun σ1 c1 hw => ⟨(hw vs hsl').trans (wipe_wipe σ vs vs fun _ h => h), Γ1, W3, _, rfl, c1, by rw [eM]; exact w3, fun b W4 w4 f4 k4 => ?_⟩
    obtain ⟨eL4, mN4, nN4⟩ := f4 L _ mN3 eL3
    cases b with
    | true =>
      refine ⟨Γ1, W4, _, rfl, c1.fr f4 k4, w4, fun yd W5 yv w5 f5 k5 r5 => ?_⟩
      obtain ⟨eL5, mN5, nN5⟩ := f5 L _ mN4 eL4
      have nL5 : W5.N L := nN5.mpr (nN4.mpr (nN3.mpr nN))
      refine ⟨acc, eL5, ?_, hlt, ⟨W5.M, W5.N, upd W5.H L (.lst (acc ++ [yv]))⟩, acc ++ [yv], ds ++ [yd], rfl, hid_ok k5 nL5 mN5, ?_, upd_same, nL5, mN5, ?_, ?_, w5⟩
      · have hs : sizeLine = 16777216 := sizeLine_eq
        omega
      · intro a o h1 h2
        have hne : a ≠ L := ne_of_none h2 nL
        obtain ⟨g1, g2, g3⟩ := ((f2.trans f3).trans f4).trans f5 a o h1 h2
        exact ⟨by show upd W5.H L _ a = _; rw [upd_ne hne]; exact g1, g2, g3⟩
      · simp only [List.length_append, List.length_singleton]
        omega
      · exact Rvs.carry (hid_carry nL5) _ _ ((r2.fr k2 ((f3.trans f4).trans f5)).append (.cons r5 .nil))
    | false =>
      exact ⟨hlt, W4, acc, ds, rfl, k4, (f2.trans f3).trans f4, eL4, nN4.mpr (nN3.mpr nN), mN4, by omega, r2.fr k2 (f3.trans f4), w4⟩
  · have e : i = items.length := by omega
    subst e
    rw [List.drop_length] at w2
    refine .inl ⟨wk.stop W2 f2 k2, ?_⟩
    refine k ds W2 L acc w2 (f1.trans f2) k2 (fun z2 => ?_) eL nN mN r2
    cases z : W.H L with
    | none => rfl
    | some o =>
      have := (f1 L o z2 z).1
      rw [nL] at this
      cases this
/-- it is data from now on -/
theorem own_lift {K : PySem.W.Frag} {w : DOwn} {σ : L2.St} {H : Hp} {Q : VK} (q : lift K (fun Γ M P => w Γ M fun ds M1 => P (.lst ds) M1) σ H Q) : liftOwn K w σ H Q := by
  obtain ⟨Γ, W, P, rfl, c, w, k⟩ := q
  refine ⟨Γ, W, _, rfl, c, w, fun ds W2 L vs w2 f2 k2 n0 eL nN mN r2 => ?_⟩
  refine k (.lst ds) ⟨W2.M, fun a => W2.N a ∧ a ≠ L, W2.H⟩ (.ref L) w2 ?_ (bare_ok k2 mN) (.lst ⟨eL, fun z => z.2 rfl⟩ (Rvs.carry bare_carry _ _ r2))
  intro a o h1 h2
  have hne : a ≠ L := by
    rintro rfl
    rw [n0 h1] at h2
    cases h2
  obtain ⟨j1, j2, j3⟩ := f2 a o h1 h2
  exact ⟨j1, j2, ⟨fun z => j3.mp z.1, fun z => ⟨j3.mpr z, hne⟩⟩⟩
theorem lc_lift {K : PySem.W.Frag} {wi : DIW} {t : Tg} {wt : DTW} {we : DW} {vs : List Nat} {σ : L2.St} {H : Hp} {Q : VK} (q : lift K (wLc wi t wt we vs) σ H Q) :
    tLc (liftI K wi) (tgT K t) (liftT K wt) (lift K we) vs σ H Q := lc_own (own_lift q)
theorem de_lc {e : Expr} {wi : DIW} {t : Tg} {wt : DTW} {we : DW} {vs : List Nat} (h : PE X e (tLc (liftI X.K wi) (tgT X.K t) (liftT X.K wt) (lift X.K we) vs)) : DE X e (wLc wi t wt we vs) := PE.imp h fun _ _ _ q => lc_lift q
theorem ds_setLc {st : Stmt} {wi : DIW} {t : Tg} {wt : DTW} {we : DW} {vs : List Nat} {i : Nat} (h : PS X st (tAsg (tLc (liftI X.K wi) (tgT X.K t) (liftT X.K wt) (lift X.K we) vs) (gName i))) : DSt X Vx st (wSet i (wLc wi t wt we vs)) :=
  PS.imp h fun E σ H q => by
    obtain ⟨Γ, W, F, rfl, c, w, k⟩ := q
    exact lc_lift ⟨Γ, W, _, rfl, c, w, fun d W1 v w1 f1 k1 r1 => k.nx _ W1 _ w1 f1 ((c.fr f1 k1).set i r1)⟩
def DEo (X : Cx) (e : Expr) (w : DOwn) : Prop := PE X e (liftOwn X.K w)
/-- name = a new list that may change -/
def wSetOwn (i : Nat) (w : DOwn) : DS := fun F Γ M => w Γ M fun ds M1 => ∀ L, M1 L = none → F.nx (Γ.set i (some (.obj (.ref L)))) (updM M1 L (.dl ds))
theorem own_set {K : PySem.W.Frag} {w : DOwn} {i : Nat} {E : Ends} {σ : L2.St} {H : Hp} (q : liftS K Vx (wSetOwn i w) E σ H) : tAsg (liftOwn K w) (gName i) E σ H := by
  obtain ⟨Γ, W, F, rfl, c, w, k⟩ := q
  refine ⟨Γ, W, _, rfl, c, w, fun ds W1 L vs w1 f1 k1 n0 eL nN mN r1 => ?_⟩
  have f2 : Fr W ⟨updM W1.M L (.dl ds), W1.N, W1.H⟩ := fun a o h1 h2 => by
    have hne : a ≠ L := by
      rintro rfl
      rw [n0 h1] at h2
      cases h2
    obtain ⟨j1, j2, j3⟩ := f1 a o h1 h2
    exact ⟨j1, by show updM W1.M L _ a = none; rw [updM_ne hne]; exact j2, j3⟩
  have cr : Carry K W1 ⟨updM W1.M L (.dl ds), W1.N, W1.H⟩ := ⟨fun h n => ⟨h, n⟩⟩
  have k2 : Ok K ⟨updM W1.M L (.dl ds), W1.N, W1.H⟩ := ⟨fun a o e => by
    by_cases ha : a = L
    · subst ha
      have e' : updM W1.M a (.dl ds) a = some o := e
      rw [updM_same] at e'
      cases e'
      exact ⟨nN, vs, eL, Rvs.carry cr _ _ r1⟩
    · have e' : updM W1.M L (.dl ds) a = some o := e
      rw [updM_ne ha] at e'
      obtain ⟨j1, j2⟩ := k1.m a o e'
      exact ⟨j1, j2.carry cr rfl⟩⟩
  exact k.nx _ ⟨updM W1.M L (.dl ds), W1.N, W1.H⟩ _ (w1 L mN) f2 ((c.fr f2 k2).set i (.obj _))
theorem ds_setOwn {st : Stmt} {w : DOwn} {i : Nat} (h : PS X st (tAsg (liftOwn X.K w) (gName i))) : DSt X Vx st (wSetOwn i w) := PS.imp h fun E σ H q => own_set q
def wLstO (wa : DAW) : DOwn := fun Γ M P => wa Γ M fun ds M1 => ds.length ≤ sizeLine ∧ P ds M1
theorem deo_lst {es : List Expr} {pos : Pos} {wa : DAW} (h : DA X es wa) : DEo X (.List es pos) (wLstO wa) := PE.imp (pe_lst h) fun σ H Q q => by
  obtain ⟨Γ, W, P, rfl, c, w, k⟩ := q
  exact ⟨Γ, W, _, rfl, c, w, fun ds W1 vs w1 f1 k1 r1 => ⟨by rw [r1.length]; exact w1.1, fun p np =>
    k ds (W1.hide p (.lst vs)) p vs w1.2 (f1.trans (Fr.hide np)) (k1.hide np) (fun z2 => by
      cases z : W.H p with
      | none => rfl
      | some o =>
        have := (f1 p o z2 z).1
        rw [np] at this
        cases this) upd_same (.inr rfl) (k1.nil_ np) (r1.fr k1 (Fr.hide np))⟩⟩
/-- a change of a list of data in M -/
theorem chg_carry {K : PySem.W.Frag} {W : Wd} {a : Addr} {o : HO} {m : MO} (n : W.N a) : Carry K W ⟨updM W.M a m, W.N, upd W.H a o⟩ := ⟨fun h n' => (hid_carry (K := K) (o := o) n).c h n'⟩
theorem chg_fr {W : Wd} {a : Addr} {o : HO} {m m0 : MO} (h : W.M a = some m0) : Fr W ⟨updM W.M a m, W.N, upd W.H a o⟩ := fun b u h1 h2 => by
  have hne : b ≠ a := by
    rintro rfl
    rw [h] at h1
    cases h1
  exact ⟨by show upd W.H a o b = _; rw [upd_ne hne]; exact h2, by show updM W.M a m b = none; rw [updM_ne hne]; exact h1, Iff.rfl⟩
theorem chg_ok {K : PySem.W.Frag} {W : Wd} {a : Addr} {vs : List V} {ds : List D} {m0 : MO} (k : Ok K W) (h : W.M a = some m0) (r : Rvs K W vs ds) : Ok K ⟨updM W.M a (.dl ds), W.N, upd W.H a (.lst vs)⟩ := by
  have nN := (k.m a _ h).1
  refine ⟨fun b o e => ?_⟩
  by_cases hb : b = a
  · subst hb
    have e' : updM W.M b (.dl ds) b = some o := e
    rw [updM_same] at e'
    cases e'
    exact ⟨nN, vs, upd_same, Rvs.carry (chg_carry nN) _ _ r⟩
  · have e' : updM W.M a (.dl ds) b = some o := e
    rw [updM_ne hb] at e'
    obtain ⟨j1, j2⟩ := k.m b o e'
    exact ⟨j1, j2.carry (chg_carry nN) (upd_ne hb)⟩
/-- o[i] = e -/
def stD (o i d : D) (M : Mem) (P : Mem → Prop) : Prop := match o, i with
  | .obj (.ref a), .int k => ∃ ds j, M a = some (.dl ds) ∧ ixN ds.length k = some j ∧ P (updM M a (.dl (ds.set j d)))
  | _, _ => False
def wStore (we wo wi : DW) : DS := fun F Γ M => we Γ M fun d M1 => wo Γ M1 fun o M2 => wi Γ M2 fun i M3 => stD o i d M3 fun M4 => F.nx Γ M4
theorem Rvs.set {K : PySem.W.Frag} {W : Wd} {v : V} {d : D} (r : Rv K W v d) : ∀ {vs : List V} {ds : List D} (i : Nat), Rvs K W vs ds → Rvs K W (vs.set i v) (ds.set i d)
  | _, _, _, .nil => .nil
  | _, _, 0, .cons _ t => .cons r t
  | _, _, i + 1, .cons q t => .cons q (Rvs.set r i t)
theorem ds_store {st : Stmt} {we wo wi : DW} (h : PS X st (tAsg (lift X.K we) (gSub (lift X.K wo) (lift X.K wi) rSetL))) : DSt X Vx st (wStore we wo wi) := PS.imp h fun E σ H q => by
  obtain ⟨Γ, W, F, rfl, c, w, k⟩ := q
  refine ⟨Γ, W, _, rfl, c, w, fun d W1 v w1 f1 k1 r1 => ⟨Γ, W1, _, rfl, c.fr f1 k1, w1, fun o W2 ov w2 f2 k2 r2 => ⟨Γ, W2, _, rfl, c.fr (f1.trans f2) k2, w2, fun i W3 iv w3 f3 k3 r3 => ?_⟩⟩⟩
  unfold stD at w3
  split at w3
  · obtain ⟨ds, j, m, e, w3⟩ := w3
    have r2' := (r2.fr k2 f3)
    cases r2' with
    | obj _ =>
      rename_i a kk
      cases r3 with
      | int _ =>
        obtain ⟨nN, vs, eH, rvs⟩ := k3.m a _ m
        have rs := rvs.set ((r1.fr k1 f2).fr k2 f3) j
        refine ⟨a, vs, kk, j, rfl, rfl, eH, by rw [rvs.length]; exact e, ?_⟩
        have f4 : Fr W ⟨updM W3.M a (.dl (ds.set j d)), W3.N, upd W3.H a (.lst (vs.set j v))⟩ := ((f1.trans f2).trans f3).trans (chg_fr m)
        exact k.nx Γ ⟨updM W3.M a (.dl (ds.set j d)), W3.N, upd W3.H a (.lst (vs.set j v))⟩ σ w3 f4 (c.fr f4 (chg_ok k3 m rs))
  · exact w3.elim
/-- o.append(e) -/
def appD (o d : D) (M : Mem) (P : DK) : Prop := match o with
  | .obj (.ref a) => ∃ ds, M a = some (.dl ds) ∧ ds.length < 1000000 ∧ P .non (updM M a (.dl (ds ++ [d])))
  | _ => False
def wApp (wo we : DW) : DW := fun Γ M P => wo Γ M fun o M1 => (∃ a ds, o = .obj (.ref a) ∧ M1 a = some (.dl ds)) ∧ we Γ M1 fun d M2 => appD o d M2 P
theorem de_app {e : Expr} {wo we : DW} (h : PE X e (tBM X.K "list" rAppend (lift X.K wo) (tCons (lift X.K we) tNil))) : DE X e (wApp wo we) := PE.imp h fun σ H Q q => by
  obtain ⟨Γ, W, P, rfl, c, w, k⟩ := q
  refine ⟨Γ, W, _, rfl, c, w, fun o W1 ov w1 f1 k1 r1 => ?_⟩
  obtain ⟨⟨a, ds, e, m⟩, w1⟩ := w1
  subst e
  cases r1
  obtain ⟨nN, vs, eH, rvs⟩ := k1.m a _ m
  refine ⟨.inl ⟨rfl, _, SqL.of eH⟩, Γ, W1, _, rfl, c.fr f1 k1, w1, fun d W2 v w2 f2 k2 r2 => ?_⟩
  obtain ⟨ds2, m2, hl, w2⟩ := w2
  obtain ⟨nN2, vs2, eH2, rvs2⟩ := k2.m a _ m2
  refine ⟨a, vs2, v, rfl, rfl, eH2, ?_, ?_⟩
  · have hs : sizeLine = 16777216 := sizeLine_eq
    rw [rvs2.length]
    omega
  · exact k .non ⟨updM W2.M a (.dl (ds2 ++ [d])), W2.N, upd W2.H a (.lst (vs2 ++ [v]))⟩ .non w2 ((f1.trans f2).trans (chg_fr m2)) (chg_ok k2 m2 (rvs2.append (.cons r2 .nil))) .non
def wYes : DTW := fun _ M P => P true M
theorem dts_nil : PTs X [] (liftT X.K wYes) := ⟨fun pins s σ H Q I q => by
  obtain ⟨Γ, W, P, rfl, c, w, k⟩ := q
  exact pts_nil.run pins s σ W.H Q I (k true W w (Fr.refl W) c.ok)⟩
theorem dts_one {e : Expr} {w : DTW} (h : DT X e w) : PTs X [e] (liftT X.K w) := pts_one h
/-! ### defs -/
theorem okD {P : Program} {w : World} {K : PySem.W.Frag} {mg : Str → Option Value} {base : Heap} {x qual : Str} {st : Stmt} {f : Addr} {fd : FuncData} {N ps : List Str} {k : Nat} {g : DSp} (F : Fun K x qual st f fd)
    (S : FnScope N ps (defScope st)) (len : ∀ ds M P, g ds M P → ds.length = ps.length)
    (walk : ∀ (cdv : Value) (A : Around) (outer : List Env) (s : Shared) (H : Hp) (E : XK), A.guards = some [] → Room k (A.deeper (envOfC qual (defScope st) s.heap.objs.size f cdv)) →
      ∃ t, DSs (cxOf CX0 P w K mg base N qual (defScope st) f cdv A outer s H E).nox VF (defBody st) t ∧ ∀ ds M P, g ds M P → t (ends P) (ds.map some ++ List.replicate (N.length - ds.length) none) M) :
    FnG P w K mg base CX0 (k + 1) f fd ps (spD K g) := by
  refine okG F S (fun vs H Q E h => ?_) (fun cdv A outer s H vs Q E hgd hr h => ?_)
  · obtain ⟨W, ds, P, rfl, c, r, q, k⟩ := h
    rw [r.length, len _ _ _ q]
  · obtain ⟨t, ht, hq⟩ := walk cdv A outer s H E hgd hr
    obtain ⟨W, ds, P, rfl, c, r, q, kk⟩ := h
    refine ⟨_, ht, ds.map some ++ List.replicate (N.length - ds.length) none, W, _, rfl, ⟨c, ?_, fun i d hd => ?_⟩, hq ds W.M P q, ⟨fun Γ' W' σ' p f c' => kk .non W' .non p f c'.ok .non, kk, fun _ _ _ p => p.elim, fun _ _ _ p => p.elim, fun _ _ _ _ _ _ p => p.elim⟩⟩
    · unfold L2.start
      simp [r.length]
    · by_cases hi : i < ds.length
      · rw [List.getElem?_append_left (by simpa using hi), List.getElem?_map] at hd
        cases e : ds[i]? with
        | none => rw [e] at hd; cases hd
        | some d' =>
          rw [e] at hd
          cases hd
          obtain ⟨v, h1, h2⟩ := r.get e
          refine ⟨v, ?_, h2⟩
          unfold L2.start
          rw [List.getElem?_append_left (by simpa [r.length] using hi), List.getElem?_map, h1]
          rfl
      · rw [List.getElem?_append_right (by simpa using Nat.le_of_not_lt hi), List.getElem?_replicate] at hd
        split at hd <;> cases hd
end
end RS
set_option Elab.async false
set_option linter.all false
set_option maxRecDepth 100000
namespace RS
open PySem PySem.Spec PyProof.Rows L2
open AutoSeq1 (wpAny_loadPart')
/-! ### t * k of a tuple, k any small number from 0 on -/
theorem mul_same (l : Addr) (cs : Array Value) (n : Nat) (dd : Option Addr) (sl : Array (Option Value)) (x : Int) (u : Tok)
    (c0 : (decide (x < -(2 ^ 63)) || decide (x ≥ 2 ^ 63)) = false) (c1 : (cs.isEmpty || x == 1) = true) :
    Meets (Builtin.«tuple.__mul__» ⟨[.ref l, .int x u], []⟩)
      (fun _ R s => s.heap.get? l = some { cls := .type "tuple", dict := dd, data := .seq cs n, slots := sl } ∧ R (.ok (.ret (.ref l))) s) := by
  refine .of_wp ?_
  intro prog w A R s h
  obtain ⟨hp, g, d, tk, os⟩ := s
  obtain ⟨hl, h⟩ := h
  have f1 := AutoSeq1.idx_int
  wp_walk using wpAny_loadPart' hl
  repeat (first
    | (refine wpAny_ite_false (decide_eq_false (by rw [c0]; exact Bool.false_ne_true)) ?_; wp_walk using wpAny_loadPart' hl)
    | (refine wpAny_ite_true (decide_eq_true c1) ?_; wp_walk using wpAny_loadPart' hl))
  exact ⟨_, rfl, h⟩
theorem mul_none (l : Addr) (cs : Array Value) (n : Nat) (dd : Option Addr) (sl : Array (Option Value)) (x : Int) (u : Tok)
    (c0 : (decide (x < -(2 ^ 63)) || decide (x ≥ 2 ^ 63)) = false) (c1 : (cs.isEmpty || x == 1) = false) (c2 : (decide (x ≤ 0) || cs.isEmpty) = true) :
    Meets (Builtin.«tuple.__mul__» ⟨[.ref l, .int x u], []⟩)
      (fun _ R s => s.heap.get? l = some { cls := .type "tuple", dict := dd, data := .seq cs n, slots := sl } ∧
        R (.ok (.ret (Value.ref s.heap.objs.size))) { s with heap := s.heap.push { cls := Value.type "tuple", data := Data.seq #[] }, toks := s.toks }) := by
  refine .of_wp ?_
  intro prog w A R s h
  obtain ⟨hp, g, d, tk, os⟩ := s
  obtain ⟨hl, h⟩ := h
  have f1 := AutoSeq1.idx_int
  wp_walk using wpAny_loadPart' hl
  repeat (first
    | (refine wpAny_ite_false (decide_eq_false (by rw [c0]; exact Bool.false_ne_true)) ?_; wp_walk using wpAny_loadPart' hl)
    | (refine wpAny_ite_false (decide_eq_false (by rw [c1]; exact Bool.false_ne_true)) ?_; wp_walk using wpAny_loadPart' hl)
    | (refine wpAny_ite_true (decide_eq_true c2) ?_; wp_walk using wpAny_loadPart' hl))
  exact ⟨_, rfl, h⟩
def rRepX (K : PySem.W.Frag) : R2 := fun x y H Q => ∃ l k xs, x = .ref l ∧ y = .int k ∧ SqT K H l xs ∧ 0 ≤ k ∧ k ≤ 1000 ∧ xs.length ≤ 1000 ∧
  ((List.replicate k.toNat xs).flatten = xs → Q (.ref l) H) ∧ ∀ p, H p = none → Q (.ref p) (upd H p (.tup (List.replicate k.toNat xs).flatten))
theorem op_repX {X : Cx} : OpR X (binaryOp .Mult) (rRepX X.K) := by
  intro pins s σ H x y v u Q I rx ry h
  obtain ⟨l, k, xs, rfl, rfl, hT, h0, h1, hz, qs, q⟩ := h
  by_cases hbig : xs ≠ [] ∧ 2 ≤ k
  · exact op_repT pins s σ H _ _ v u Q I rx ry ⟨l, k, xs, rfl, rfl, hT, hbig.1, hbig.2, h1, hz, q⟩
  have hT0 := hT
  cases rx
  obtain ⟨t, rfl⟩ := ry
  obtain ⟨its, r, ⟨⟨cls, dd, data, sl⟩, ho, hc, n, hd⟩, hs⟩ := I.tuple hT
  simp only at hc hd
  subst hc hd
  have hle : its.length = xs.length := r.length.symm
  have c0 : (decide (k < -(2 ^ 63)) || decide (k ≥ 2 ^ 63)) = false := by
    rw [decide_eq_false (by omega), decide_eq_false (by omega)] <;> rfl
  by_cases hs1 : xs = [] ∨ k = 1
  · have c1 : (its.toArray.isEmpty || k == 1) = true := by
      rcases hs1 with e | e
      · subst e
        have : its = [] := List.eq_nil_of_length_eq_zero hle
        subst this
        rfl
      · subst e
        simp
    refine wpAny_binaryOp_repeat_ref (T := "tuple") (U := "int") (by decide) ⟨_, ho, rfl⟩ (fun s' => typeIs_int s' k t) noFill_tuple_mul F.fills_int_mul F.slot_int_rmul repeat_tuple F.slot_int_index.lookup
      (call_meets F.slot_int_rmul (typeIs_int s k t) F.entry_int_rmul (F.args_int_rmul_2 _ _) (int_rmul_tuple k t l its.toArray n dd sl)
        ⟨ho, rfl, ⟨_, ho, rfl⟩, call_meets F.slot_tuple_mul ⟨_, ho, rfl⟩ F.entry_tuple_mul (F.args_tuple_mul_2 _ _) (mul_same l its.toArray n dd sl k t c0 c1) ⟨ho, ?_⟩⟩)
    refine ⟨.ref l, H, I, rfl, qs ?_⟩
    have e : (List.replicate k.toNat xs).flatten = xs := by
      rcases hs1 with e | e
      · subst e
        exact List.flatten_replicate_nil
      · subst e
        show (List.replicate 1 xs).flatten = xs
        simp
    exact e
  · have hk0 : k = 0 := by
      have hx : xs ≠ [] := fun e => hs1 (.inl e)
      have h2 : ¬ 2 ≤ k := fun e => hbig ⟨hx, e⟩
      have h3 : k ≠ 1 := fun e => hs1 (.inr e)
      omega
    have hx : xs ≠ [] := fun e => hs1 (.inl e)
    have hi : its.toArray.isEmpty = false := by
      cases its with
      | nil => exact absurd (List.eq_nil_of_length_eq_zero hle.symm) hx
      | cons a b => rfl
    have c1 : (its.toArray.isEmpty || k == 1) = false := by
      rw [hi, hk0]
      rfl
    have c2 : (decide (k ≤ 0) || its.toArray.isEmpty) = true := by
      rw [hk0]
      rfl
    refine wpAny_binaryOp_repeat_ref (T := "tuple") (U := "int") (by decide) ⟨_, ho, rfl⟩ (fun s' => typeIs_int s' k t) noFill_tuple_mul F.fills_int_mul F.slot_int_rmul repeat_tuple F.slot_int_index.lookup
      (call_meets F.slot_int_rmul (typeIs_int s k t) F.entry_int_rmul (F.args_int_rmul_2 _ _) (int_rmul_tuple k t l its.toArray n dd sl)
        ⟨ho, rfl, ⟨_, ho, rfl⟩, call_meets F.slot_tuple_mul ⟨_, ho, rfl⟩ F.entry_tuple_mul (F.args_tuple_mul_2 _ _) (mul_none l its.toArray n dd sl k t c0 c1 c2) ⟨ho, ?_⟩⟩)
    refine ⟨.ref s.heap.objs.size, _, I.laid (t' := s.toks) (o := .tup []) (fun b ob z => Heap.get?_push_of_some _ z) (Nat.le_refl _) ?_, rfl, ?_⟩
    · exact ⟨Nat.zero_le _, [], .nil, IsTup.new _ _⟩
    · have q' := q _ (I.hok.fresh (Nat.le_refl _))
      rw [hk0] at q'
      exact q'
end RS
set_option Elab.async false
set_option linter.all false
set_option maxRecDepth 100000
namespace RS
open PySem PySem.Spec PyProof.Rows L2
/-! ### turns: the mathematics -/
/-- the heights that follow, going round -/
def after (hs : List Int) (i : Nat) : List Int := hs.drop (i + 1) ++ hs.take i
theorem after_get {hs : List Int} {i j : Nat} (hi : i < hs.length) (hj : j < hs.length - 1) : (after hs i)[j]? = hs[(i + 1 + j) % hs.length]? := by
  unfold after
  by_cases h : i + 1 + j < hs.length
  · rw [List.getElem?_append_left (by rw [List.length_drop]; omega), List.getElem?_drop, Nat.mod_eq_of_lt h]
  · rw [List.getElem?_append_right (by rw [List.length_drop]; omega), List.length_drop]
    have e : (i + 1 + j) % hs.length = i + 1 + j - hs.length := by
      rw [Nat.mod_eq_sub_mod (by omega), Nat.mod_eq_of_lt (by omega)]
    rw [e, List.getElem?_take_of_lt (by omega)]
    congr 1
    omega
def otherOf (hs : List Int) (i : Nat) : Option Int := (after hs i).find? fun x => decide (x ≠ hs.getD i 0)
def nextOther (hs : List Int) (i : Nat) : Int := (otherOf hs i).getD (hs.getD i 0)
def isTurn (hs : List Int) (i : Nat) : Bool :=
  if prevOf hs i = hs.getD i 0 then false else decide (decide (prevOf hs i < hs.getD i 0) = decide (nextOther hs i < hs.getD i 0))
def turnsOf (hs : List Int) : List Nat := (List.range hs.length).filter (isTurn hs)
def natInts (ns : List Nat) : List Int := ns.map fun (n : Nat) => (n : Int)
theorem find_some {l : List Int} {p : Int → Bool} {j : Nat} {c : Int} (h1 : ∀ (j' : Nat) (x : Int), j' < j → l[j']? = some x → p x = false) (h2 : l[j]? = some c) (h3 : p c = true) : l.find? p = some c := by
  induction l generalizing j with
  | nil => simp at h2
  | cons y r ih =>
    cases j with
    | zero =>
      have e : y = c := Option.some.inj h2
      rw [List.find?_cons, e, h3]
    | succ j =>
      have e : p y = false := h1 0 y (by omega) rfl
      rw [List.find?_cons, e]
      exact ih (fun j' x hj hx => h1 (j' + 1) x (by omega) hx) h2
theorem find_none {l : List Int} {p : Int → Bool} (h1 : ∀ (j' : Nat) (x : Int), l[j']? = some x → p x = false) : l.find? p = none := by
  rw [List.find?_eq_none]
  intro x hx
  obtain ⟨j, hj⟩ := List.mem_iff_getElem?.mp hx
  rw [h1 j x hj]
  exact Bool.false_ne_true
/-- the place before stands among those that follow -/
theorem prev_after {hs : List Int} {i : Nat} (hi : i < hs.length) (h2 : 2 ≤ hs.length) : (after hs i)[hs.length - 2]? = some (prevOf hs i) := by
  rw [after_get hi (by omega)]
  unfold prevOf
  have hj : (if i = 0 then hs.length - 1 else i - 1) < hs.length := by split <;> omega
  have e : (i + 1 + (hs.length - 2)) % hs.length = if i = 0 then hs.length - 1 else i - 1 := by
    split
    · rename_i h
      subst h
      rw [Nat.mod_eq_of_lt (by omega)]
      omega
    · rw [Nat.mod_eq_sub_mod (by omega), Nat.mod_eq_of_lt (by omega)]
      omega
  rw [e, List.getD_eq_getElem?_getD, List.getElem?_eq_getElem hj]
  rfl
theorem prev_single {hs : List Int} {i : Nat} (hi : i < hs.length) (h2 : hs.length < 2) : prevOf hs i = hs.getD i 0 := by
  unfold prevOf
  have : i = 0 := by omega
  subst this
  rw [if_pos rfl]
  congr 1
  omega
theorem other_some {hs : List Int} {i : Nat} (hi : i < hs.length) (h : prevOf hs i ≠ hs.getD i 0) : ∃ x, otherOf hs i = some x := by
  have h2 : 2 ≤ hs.length := by
    refine Nat.le_of_not_lt fun z => h (prev_single hi z)
  cases e : otherOf hs i with
  | some x => exact ⟨x, rfl⟩
  | none =>
    unfold otherOf at e
    rw [List.find?_eq_none] at e
    have := e _ (List.mem_of_getElem? (prev_after hi h2))
    exact absurd (decide_eq_true h) this
theorem turns_lt {hs : List Int} : ∀ t ∈ turnsOf hs, t < hs.length := by
  intro t ht
  exact List.mem_range.mp (List.mem_filter.mp ht).1
theorem turns_len (hs : List Int) : (turnsOf hs).length ≤ hs.length := by
  unfold turnsOf
  exact Nat.le_trans (List.length_filter_le _ _) (by rw [List.length_range]; exact Nat.le_refl _)
end RS
set_option Elab.async false
set_option linter.all false
set_option maxRecDepth 100000
namespace RS
open PySem PySem.Spec PyProof.Rows L2
/-! ### passages: the mathematics -/
def outP (lo hi x : Int) : Bool := decide (hi ≤ x) || decide (x ≤ lo)
end RS
set_option Elab.async false
set_option linter.all false
set_option maxRecDepth 100000
namespace RS
open PySem PySem.Spec PyProof.Rows L2
/-! ### counting passages by marks -/
def marks (hs : List Int) (lo hi : Int) : List Bool := (hs.filter (outP lo hi)).map fun x => decide (hi ≤ x)
def rise (p b : Bool) : Nat := if (!p && b) = true then 1 else 0
/-- the rises of a walk that begins at p -/
def adj (p : Bool) : List Bool → Nat
  | [] => 0
  | b :: r => rise p b + adj b r
def endOf (p : Bool) : List Bool → Bool
  | [] => p
  | b :: r => endOf b r
/-- the rises of a closed walk -/
def cyc : List Bool → Nat
  | [] => 0
  | b :: r => adj b (r ++ [b])
theorem adj_app : ∀ (xs ys : List Bool) (p : Bool), adj p (xs ++ ys) = adj p xs + adj (endOf p xs) ys
  | [], ys, p => by
    show adj p ys = 0 + adj p ys
    omega
  | x :: xs, ys, p => by
    show rise p x + adj x (xs ++ ys) = rise p x + adj x xs + adj (endOf x xs) ys
    rw [adj_app xs ys x]
    omega
theorem endOf_app : ∀ (xs ys : List Bool) (p : Bool), endOf p (xs ++ ys) = endOf (endOf p xs) ys
  | [], _, _ => rfl
  | x :: xs, ys, p => endOf_app xs ys x
theorem cyc_rot (a b : List Bool) : cyc (a ++ b) = cyc (b ++ a) := by
  cases a with
  | nil =>
    rw [List.append_nil]
    rfl
  | cons a0 a' =>
    cases b with
    | nil =>
      rw [List.append_nil]
      rfl
    | cons b0 b' =>
      show adj a0 (a' ++ b0 :: b' ++ [a0]) = adj b0 (b' ++ a0 :: a' ++ [b0])
      rw [adj_app (a' ++ b0 :: b') [a0], adj_app a' (b0 :: b'), endOf_app, adj_app (b' ++ a0 :: a') [b0], adj_app b' (a0 :: a'), endOf_app]
      show adj a0 a' + (rise (endOf a0 a') b0 + adj b0 b') + (rise (endOf b0 b') a0 + 0) = adj b0 b' + (rise (endOf b0 b') a0 + adj a0 a') + (rise (endOf a0 a') b0 + 0)
      omega
theorem adj_not : ∀ (xs : List Bool) (p : Bool), adj (!p) (xs.map (!·)) + (endOf p xs).toNat = adj p xs + p.toNat
  | [], p => by
    show 0 + p.toNat = 0 + p.toNat
    rfl
  | x :: xs, p => by
    have ih := adj_not xs x
    show rise (!p) (!x) + adj (!x) (xs.map (!·)) + (endOf x xs).toNat = rise p x + adj x xs + p.toNat
    cases p <;> cases x <;> simp [rise] at ih ⊢ <;> omega
theorem cyc_not (ms : List Bool) : cyc (ms.map (!·)) = cyc ms := by
  cases ms with
  | nil => rfl
  | cons m r =>
    have h := adj_not (r ++ [m]) m
    rw [endOf_app, List.map_append] at h
    have e : (endOf (endOf m r) [m]) = m := rfl
    rw [e] at h
    show adj (!m) (r.map (!·) ++ [!m]) = adj m (r ++ [m])
    have e2 : List.map (fun x => !x) [m] = [!m] := rfl
    rw [e2] at h
    omega
theorem marks_app (a b : List Int) (lo hi : Int) : marks (a ++ b) lo hi = marks a lo hi ++ marks b lo hi := by
  unfold marks
  rw [List.filter_append, List.map_append]
theorem marks_neg (hs : List Int) {lo hi : Int} (h : lo < hi) : marks (hs.map fun x => 0 - x) (0 - hi) (0 - lo) = (marks hs lo hi).map (!·) := by
  unfold marks
  induction hs with
  | nil => rfl
  | cons x r ih =>
    rw [List.map_cons]
    have e : outP (0 - hi) (0 - lo) (0 - x) = outP lo hi x := by
      unfold outP
      rw [show decide (0 - lo ≤ 0 - x) = decide (x ≤ lo) from decide_eq_decide.mpr ⟨fun _ => by omega, fun _ => by omega⟩,
        show decide (0 - x ≤ 0 - hi) = decide (hi ≤ x) from decide_eq_decide.mpr ⟨fun _ => by omega, fun _ => by omega⟩]
      exact Bool.or_comm _ _
    by_cases ho : outP lo hi x = true
    · rw [List.filter_cons_of_pos (by rw [e]; exact ho), List.filter_cons_of_pos ho, List.map_cons, List.map_cons, List.map_cons, ih]
      congr 1
      unfold outP at ho
      by_cases h1 : hi ≤ x
      · rw [decide_eq_true h1, decide_eq_false (by omega)]
        rfl
      · rw [decide_eq_false h1, Bool.false_or] at ho
        have h2 := of_decide_eq_true ho
        rw [decide_eq_false h1, decide_eq_true (by omega)]
        rfl
    · rw [List.filter_cons_of_neg (by rw [e]; exact ho), List.filter_cons_of_neg ho, ih]
/-! ### the number of places where a passage begins -/
/-! ### the law's own count -/
end RS
namespace RS
open PySem PySem.Spec PyProof.Rows L2
/-! ### lists of bools -/
end RS
set_option Elab.async false
set_option linter.all false
set_option maxRecDepth 100000
namespace RS
open PySem PySem.Spec PyProof.Rows L2
/-! ### closed walks and what may be taken out of them -/
theorem cyc_cons (m : Bool) (r : List Bool) : cyc (m :: r) = rise (endOf m r) m + adj m r := by
  show adj m (r ++ [m]) = _
  rw [adj_app]
  show adj m r + (rise (endOf m r) m + 0) = _
  omega
theorem endOf_eq (m : Bool) (r : List Bool) (b : Bool) (h : (m :: r).getLast? = some b) : endOf m r = b := by
  induction r generalizing m with
  | nil =>
    exact Option.some.inj h
  | cons x r ih =>
    rw [List.getLast?_cons_cons] at h
    exact ih x h
theorem mark_head {R : List Int} {lo hi n : Int} (h : R.head? = some n) (ho : outP lo hi n = true) : (marks R lo hi).head? = some (decide (hi ≤ n)) := by
  cases R with
  | nil => cases h
  | cons x r =>
    cases h
    unfold marks
    rw [List.filter_cons_of_pos ho]
    rfl
theorem mark_last {R : List Int} {lo hi p : Int} (h : R.getLast? = some p) (ho : outP lo hi p = true) : (marks R lo hi).getLast? = some (decide (hi ≤ p)) := by
  have e : R = R.dropLast ++ [p] := by
    have hne : R ≠ [] := by
      rintro rfl
      cases h
    rw [List.getLast?_eq_getLast hne] at h
    rw [← Option.some.inj h, List.dropLast_concat_getLast]
  rw [e, marks_app, List.getLast?_append]
  have : marks [p] lo hi = [decide (hi ≤ p)] := by
    unfold marks
    rw [List.filter_cons_of_pos ho]
    rfl
  rw [this]
  rfl
theorem marks_cons (x : Int) (R : List Int) (lo hi : Int) : marks (x :: R) lo hi = (if outP lo hi x = true then [decide (hi ≤ x)] else []) ++ marks R lo hi := by
  unfold marks
  rw [List.filter_cons]
  split <;> rfl
theorem out_lo {lo hi x : Int} (h : x ≤ lo) : outP lo hi x = true := by
  unfold outP
  rw [decide_eq_true h, Bool.or_true]
theorem out_hi {lo hi x : Int} (h : hi ≤ x) : outP lo hi x = true := by
  unfold outP
  rw [decide_eq_true h, Bool.true_or]
theorem out_mid {lo hi x : Int} (h1 : lo < x) (h2 : x < hi) : ¬ outP lo hi x = true := by
  unfold outP
  rw [decide_eq_false (by omega), decide_eq_false (by omega)]
  exact Bool.false_ne_true
/-- a height between its neighbours -/
theorem cyc_mid {R : List Int} {lo hi p n x : Int} (hlh : lo < hi) (hn : R.head? = some n) (hp : R.getLast? = some p) (hb : (p ≤ x ∧ x ≤ n) ∨ (n ≤ x ∧ x ≤ p)) :
    cyc (marks (x :: R) lo hi) = cyc (marks R lo hi) := by
  rw [marks_cons]
  by_cases ho : outP lo hi x = true
  · rw [if_pos ho]
    show cyc (decide (hi ≤ x) :: marks R lo hi) = _
    by_cases hx : hi ≤ x
    · rw [decide_eq_true hx]
      rcases hb with ⟨_, h2⟩ | ⟨_, h2⟩
      · have m := mark_head hn (out_hi (lo := lo) (show hi ≤ n by omega))
        rw [decide_eq_true (show hi ≤ n by omega)] at m
        cases hm : marks R lo hi with
        | nil =>
          rw [hm] at m
          cases m
        | cons b r =>
          rw [hm] at m
          cases m
          rw [cyc_cons, cyc_cons]
          show rise (endOf true r) true + (rise true true + adj true r) = rise (endOf true r) true + adj true r
          have : rise true true = 0 := rfl
          omega
      · have m := mark_last hp (out_hi (lo := lo) (show hi ≤ p by omega))
        rw [decide_eq_true (show hi ≤ p by omega)] at m
        cases hm : marks R lo hi with
        | nil =>
          rw [hm] at m
          cases m
        | cons b r =>
          rw [hm] at m
          have e := endOf_eq b r true m
          rw [cyc_cons, cyc_cons]
          show rise (endOf b r) true + (rise true b + adj b r) = rise (endOf b r) b + adj b r
          rw [e]
          have : rise true true = 0 := rfl
          omega
    · have hx2 : x ≤ lo := by
        refine Classical.byContradiction fun z => out_mid (lo := lo) (hi := hi) (x := x) (by omega) (by omega) ho
      rw [decide_eq_false hx]
      rcases hb with ⟨h1, _⟩ | ⟨h1, _⟩
      · have m := mark_last hp (out_lo (hi := hi) (show p ≤ lo by omega))
        rw [decide_eq_false (show ¬ hi ≤ p by omega)] at m
        cases hm : marks R lo hi with
        | nil =>
          rw [hm] at m
          cases m
        | cons b r =>
          rw [hm] at m
          have e := endOf_eq b r false m
          rw [cyc_cons, cyc_cons]
          show rise (endOf b r) false + (rise false b + adj b r) = rise (endOf b r) b + adj b r
          rw [e]
          have : rise false false = 0 := rfl
          omega
      · have m := mark_head hn (out_lo (hi := hi) (show n ≤ lo by omega))
        rw [decide_eq_false (show ¬ hi ≤ n by omega)] at m
        cases hm : marks R lo hi with
        | nil =>
          rw [hm] at m
          cases m
        | cons b r =>
          rw [hm] at m
          cases m
          rw [cyc_cons, cyc_cons]
          show rise (endOf false r) false + (rise false false + adj false r) = rise (endOf false r) false + adj false r
          have : rise false false = 0 := rfl
          omega
  · rw [if_neg ho, List.nil_append]
def inSw (lo hi a b : Int) : Nat := if a ≤ lo ∧ hi ≤ b then 1 else 0
/-- two neighbours between which the walk can be straightened: up, then down again -/
theorem cyc_pair {R : List Int} {lo hi p s q r : Int} (hlh : lo < hi) (hs : R.head? = some s) (hp : R.getLast? = some p) (hqr : q < r) (h1 : r ≤ p) (h2 : s ≤ q) :
    cyc (marks (q :: r :: R) lo hi) = cyc (marks R lo hi) + inSw lo hi q r := by
  rw [marks_cons q, marks_cons r]
  unfold inSw
  by_cases hq : q ≤ lo
  · have mh := mark_head hs (out_lo (hi := hi) (show s ≤ lo by omega))
    rw [decide_eq_false (show ¬ hi ≤ s by omega)] at mh
    rw [if_pos (out_lo (hi := hi) hq), decide_eq_false (show ¬ hi ≤ q by omega)]
    cases hm : marks R lo hi with
    | nil =>
      rw [hm] at mh
      cases mh
    | cons b t =>
      rw [hm] at mh
      cases mh
      by_cases hr : hi ≤ r
      · have ml := mark_last hp (out_hi (lo := lo) (show hi ≤ p by omega))
        rw [hm, decide_eq_true (show hi ≤ p by omega)] at ml
        have e := endOf_eq false t true ml
        rw [if_pos (out_hi (lo := lo) hr), decide_eq_true hr, if_pos ⟨hq, hr⟩]
        show cyc (false :: true :: false :: t) = _
        rw [cyc_cons, cyc_cons]
        show rise (endOf false t) false + (rise false true + (rise true false + adj false t)) = rise (endOf false t) false + adj false t + 1
        have e1 : rise false true = 1 := rfl
        have e2 : rise true false = 0 := rfl
        omega
      · rw [if_neg (show ¬ (q ≤ lo ∧ hi ≤ r) from fun z => hr z.2)]
        by_cases hr2 : r ≤ lo
        · rw [if_pos (out_lo (hi := hi) hr2), decide_eq_false hr]
          show cyc (false :: false :: false :: t) = _
          rw [cyc_cons, cyc_cons]
          show rise (endOf false t) false + (rise false false + (rise false false + adj false t)) = rise (endOf false t) false + adj false t + 0
          have e1 : rise false false = 0 := rfl
          omega
        · rw [if_neg (out_mid (by omega) (by omega))]
          show cyc (false :: false :: t) = _
          rw [cyc_cons, cyc_cons]
          show rise (endOf false t) false + (rise false false + adj false t) = rise (endOf false t) false + adj false t + 0
          have e1 : rise false false = 0 := rfl
          omega
  · rw [if_neg (show ¬ (q ≤ lo ∧ hi ≤ r) from fun z => hq z.1)]
    by_cases hr : hi ≤ r
    · have ml := mark_last hp (out_hi (lo := lo) (show hi ≤ p by omega))
      rw [decide_eq_true (show hi ≤ p by omega)] at ml
      rw [if_pos (out_hi (lo := lo) hr), decide_eq_true hr]
      cases hm : marks R lo hi with
      | nil =>
        rw [hm] at ml
        cases ml
      | cons b t =>
        rw [hm] at ml
        have e := endOf_eq b t true ml
        by_cases hq2 : hi ≤ q
        · rw [if_pos (out_hi (lo := lo) hq2), decide_eq_true hq2]
          show cyc (true :: true :: b :: t) = _
          rw [cyc_cons, cyc_cons]
          show rise (endOf b t) true + (rise true true + (rise true b + adj b t)) = rise (endOf b t) b + adj b t + 0
          rw [e]
          have e1 : rise true true = 0 := rfl
          omega
        · rw [if_neg (out_mid (by omega) (by omega))]
          show cyc (true :: b :: t) = _
          rw [cyc_cons, cyc_cons]
          show rise (endOf b t) true + (rise true b + adj b t) = rise (endOf b t) b + adj b t + 0
          rw [e]
          have e1 : rise true true = 0 := rfl
          omega
    · rw [if_neg (out_mid (by omega) (by omega)), if_neg (out_mid (by omega) (by omega))]
      show cyc (marks R lo hi) = _
      omega
/-- the same, down, then up again -/
theorem cyc_pair' {R : List Int} {lo hi p s q r : Int} (hlh : lo < hi) (hs : R.head? = some s) (hp : R.getLast? = some p) (hqr : r < q) (h1 : p ≤ r) (h2 : q ≤ s) :
    cyc (marks (q :: r :: R) lo hi) = cyc (marks R lo hi) + inSw lo hi r q := by
  have h := cyc_pair (R := R.map fun x => 0 - x) (lo := 0 - hi) (hi := 0 - lo) (p := 0 - p) (s := 0 - s) (q := 0 - q) (r := 0 - r) (by omega)
    (by rw [List.head?_map, hs]; rfl) (by rw [List.getLast?_map, hp]; rfl) (by omega) (by omega) (by omega)
  have e1 := marks_neg (q :: r :: R) hlh
  have e2 := marks_neg R hlh
  rw [List.map_cons, List.map_cons] at e1
  rw [e1, e2, cyc_not, cyc_not] at h
  rw [h]
  congr 1
  unfold inSw
  by_cases hz : r ≤ lo ∧ hi ≤ q
  · rw [if_pos hz, if_pos ⟨by omega, by omega⟩]
  · rw [if_neg hz, if_neg (fun z => hz ⟨by omega, by omega⟩)]
theorem cyc_two {lo hi q r : Int} (hlh : lo < hi) (hqr : q < r) : cyc (marks [q, r] lo hi) = inSw lo hi q r ∧ cyc (marks [r, q] lo hi) = inSw lo hi q r := by
  have e : cyc (marks [q, r] lo hi) = cyc (marks [r, q] lo hi) := by
    rw [show [q, r] = [q] ++ [r] from rfl, show [r, q] = [r] ++ [q] from rfl, marks_app, marks_app, cyc_rot]
  refine ⟨?_, e ▸ ?_⟩ <;>
  · rw [marks_cons, marks_cons]
    unfold inSw
    by_cases hq : q ≤ lo
    · rw [if_pos (out_lo (hi := hi) hq), decide_eq_false (show ¬ hi ≤ q by omega)]
      by_cases hr : hi ≤ r
      · rw [if_pos (out_hi (lo := lo) hr), decide_eq_true hr, if_pos ⟨hq, hr⟩]
        rfl
      · rw [if_neg (show ¬ (q ≤ lo ∧ hi ≤ r) from fun z => hr z.2)]
        by_cases hr2 : r ≤ lo
        · rw [if_pos (out_lo (hi := hi) hr2), decide_eq_false hr]
          rfl
        · rw [if_neg (out_mid (by omega) (by omega))]
          rfl
    · rw [if_neg (show ¬ (q ≤ lo ∧ hi ≤ r) from fun z => hq z.1)]
      by_cases hr : hi ≤ r
      · rw [if_pos (out_hi (lo := lo) hr), decide_eq_true hr]
        by_cases hq2 : hi ≤ q
        · rw [if_pos (out_hi (lo := lo) hq2), decide_eq_true hq2]
          rfl
        · rw [if_neg (out_mid (by omega) (by omega))]
          rfl
      · rw [if_neg (out_mid (by omega) (by omega)), if_neg (out_mid (by omega) (by omega))]
        rfl
/-! ### chains -/
section
variable {α : Type}
def Ch (R : α → α → Prop) : α → List α → α → Prop
  | a, [], b => R a b
  | a, x :: l, b => R a x ∧ Ch R x l b
def Cl (R : α → α → Prop) : List α → Prop
  | [] => True
  | x :: r => Ch R x r x
theorem ch_app {R : α → α → Prop} : ∀ (l1 : List α) (a x : α) (l2 : List α) (b : α), Ch R a (l1 ++ x :: l2) b ↔ Ch R a l1 x ∧ Ch R x l2 b
  | [], a, x, l2, b => Iff.rfl
  | y :: l1, a, x, l2, b => by
    show R a y ∧ Ch R y (l1 ++ x :: l2) b ↔ (R a y ∧ Ch R y l1 x) ∧ Ch R x l2 b
    rw [ch_app l1 y x l2 b]
    exact and_assoc.symm
theorem cl_rot {R : α → α → Prop} (A B : List α) (h : Cl R (A ++ B)) : Cl R (B ++ A) := by
  cases A with
  | nil =>
    rw [List.append_nil]
    exact h
  | cons a A =>
    cases B with
    | nil =>
      rw [List.append_nil] at h
      exact h
    | cons b B =>
      have h' : Ch R a (A ++ b :: B) a := h
      show Ch R b (B ++ a :: A) b
      rw [ch_app] at h' ⊢
      exact ⟨h'.2, h'.1⟩
end
end RS
set_option Elab.async false
set_option linter.all false
set_option maxRecDepth 100000
namespace RS
open PySem PySem.Spec PyProof.Rows L2
/-! ### chains from what holds place by place -/
section
variable {α : Type}
theorem ch_mono {R S : α → α → Prop} (h : ∀ x y, R x y → S x y) : ∀ (l : List α) (a b : α), Ch R a l b → Ch S a l b
  | [], a, b, q => h a b q
  | x :: l, a, b, q => ⟨h a x q.1, ch_mono h l x b q.2⟩
theorem ch_and {R S : α → α → Prop} : ∀ (l : List α) (a b : α), Ch R a l b → Ch S a l b → Ch (fun x y => R x y ∧ S x y) a l b
  | [], a, b, q, r => ⟨q, r⟩
  | x :: l, a, b, q, r => ⟨⟨q.1, r.1⟩, ch_and l x b q.2 r.2⟩
theorem ch_start {R : α → α → Prop} {a z b : α} (h : ∀ y, R a y → R z y) : ∀ (l : List α), Ch R a l b → Ch R z l b
  | [], q => h b q
  | x :: l, q => ⟨h x q.1, q.2⟩
theorem ch_of {R : α → α → Prop} : ∀ (l : List α) (a b : α), (∀ (i : Nat) (x y : α), (a :: l)[i]? = some x → l[i]? = some y → R x y) → (∀ x, (a :: l).getLast? = some x → R x b) → Ch R a l b
  | [], a, b, _, h2 => h2 a rfl
  | x :: l, a, b, h1, h2 => by
    refine ⟨h1 0 a x rfl rfl, ch_of l x b ?_ ?_⟩
    · intro i y z hy hz
      exact h1 (i + 1) y z hy hz
    · intro y hy
      refine h2 y ?_
      rw [List.getLast?_cons_cons]
      exact hy
/-- the place before, around n places -/
def pre_ (n i : Nat) : Nat := if i = 0 then n - 1 else i - 1
theorem cl_of {R : α → α → Prop} (l : List α) (h : ∀ (i : Nat) (x y : α), l[i]? = some y → l[pre_ l.length i]? = some x → R x y) : Cl R l := by
  cases l with
  | nil => trivial
  | cons a r =>
    refine ch_of r a a ?_ ?_
    · intro i x y hx hy
      refine h (i + 1) x y hy ?_
      unfold pre_
      rw [if_neg (by omega), Nat.add_sub_cancel]
      exact hx
    · intro x hx
      refine h 0 x a rfl ?_
      unfold pre_
      rw [if_pos rfl]
      rw [List.getLast?_eq_getElem?] at hx
      exact hx
theorem cl_len {R : α → α → Prop} (irr : ∀ x, ¬ R x x) {l : List α} (h : Cl R l) : l.length ≠ 1 := by
  intro e
  match l, e with
  | [x], _ => exact irr x h
end
/-! ### up or down -/
def hgt (hs : List Int) (i : Nat) : Int := hs.getD i 0
def upAt (hs : List Int) (i : Nat) : Bool := decide (hgt hs i < nextOther hs i)
theorem prevOf_eq (hs : List Int) (i : Nat) : prevOf hs i = hgt hs (pre_ hs.length i) := rfl
theorem getElem_hgt {hs : List Int} {i : Nat} (hi : i < hs.length) : hs[i]? = some (hgt hs i) := by
  unfold hgt
  rw [List.getD_eq_getElem?_getD, List.getElem?_eq_getElem hi]
  rfl
theorem after_pre {hs : List Int} {i : Nat} (hi : i < hs.length) (h2 : 2 ≤ hs.length) : ∃ X, after hs (pre_ hs.length i) = hgt hs i :: X ∧ after hs i = X ++ [hgt hs (pre_ hs.length i)] := by
  unfold pre_
  by_cases h0 : i = 0
  · subst h0
    rw [if_pos rfl]
    refine ⟨(hs.drop 1).dropLast, ?_, ?_⟩
    · unfold after
      rw [show hs.length - 1 + 1 = hs.length by omega, List.drop_length, List.nil_append]
      cases hs with
      | nil => simp at hi
      | cons a r =>
        show List.take (r.length + 1 - 1) (a :: r) = a :: r.dropLast
        cases r with
        | nil => simp at h2
        | cons b t =>
          rw [List.dropLast_eq_take]
          rfl
    · unfold after
      rw [List.take_zero, List.append_nil]
      have hne : hs.drop 1 ≠ [] := by
        intro z
        have := congrArg List.length z
        rw [List.length_drop] at this
        simp at this
        omega
      have e : hgt hs (hs.length - 1) = (hs.drop 1).getLast hne := by
        have g := getElem_hgt (hs := hs) (i := hs.length - 1) (by omega)
        have g2 : (hs.drop 1).getLast? = some (hgt hs (hs.length - 1)) := by
          rw [List.getLast?_eq_getElem?, List.length_drop, List.getElem?_drop, show 1 + (hs.length - 1 - 1) = hs.length - 1 by omega]
          exact g
        rw [List.getLast?_eq_getLast hne] at g2
        exact (Option.some.inj g2).symm
      rw [e, List.dropLast_concat_getLast]
  · rw [if_neg h0]
    refine ⟨hs.drop (i + 1) ++ hs.take (i - 1), ?_, ?_⟩
    · unfold after
      rw [show i - 1 + 1 = i by omega]
      have : hs.drop i = hgt hs i :: hs.drop (i + 1) := by
        rw [List.drop_eq_getElem_cons hi]
        congr 1
        have := getElem_hgt hi
        rw [List.getElem?_eq_getElem hi] at this
        exact Option.some.inj this
      rw [this]
      rfl
    · unfold after
      have : hs.take i = hs.take (i - 1) ++ [hgt hs (i - 1)] := by
        have e := List.take_add_one (l := hs) (i := i - 1)
        rw [show i - 1 + 1 = i by omega, getElem_hgt (by omega)] at e
        exact e
      rw [this, List.append_assoc]
theorem pre_lt {n i : Nat} (hi : i < n) : pre_ n i < n := by
  unfold pre_
  split <;> omega
theorem pre_single {n i : Nat} (hi : i < n) (h2 : n < 2) : pre_ n i = i := by
  unfold pre_
  split <;> omega
/-- the next other height of the place before -/
theorem next_pre {hs : List Int} {i : Nat} (hi : i < hs.length) (h : hgt hs (pre_ hs.length i) ≠ hgt hs i) : nextOther hs (pre_ hs.length i) = hgt hs i := by
  have h2 : 2 ≤ hs.length := by
    refine Nat.le_of_not_lt fun z => h ?_
    rw [pre_single hi z]
  obtain ⟨X, e1, _⟩ := after_pre hi h2
  unfold nextOther otherOf
  rw [e1, List.find?_cons, show decide (hgt hs i ≠ hs.getD (pre_ hs.length i) 0) = true from decide_eq_true (fun z => h z.symm)]
  rfl
theorem next_eq {hs : List Int} {i : Nat} (hi : i < hs.length) (h : hgt hs (pre_ hs.length i) = hgt hs i) : nextOther hs (pre_ hs.length i) = nextOther hs i := by
  by_cases h2 : 2 ≤ hs.length
  · obtain ⟨X, e1, e2⟩ := after_pre hi h2
    have g1 : hs.getD (pre_ hs.length i) 0 = hgt hs i := h
    have g2 : hs.getD i 0 = hgt hs i := rfl
    unfold nextOther otherOf
    rw [e1, e2, g1, g2, h, List.find?_cons, List.find?_append, List.find?_cons]
    have z : decide (hgt hs i ≠ hgt hs i) = false := decide_eq_false (fun q => q rfl)
    rw [z]
    show (List.find? _ X).getD _ = ((List.find? _ X).or none).getD _
    rw [Option.or_none]
  · rw [pre_single hi (by omega)]
def R1 (hs : List Int) (i j : Nat) : Prop := (if upAt hs i = true then hgt hs i ≤ hgt hs j else hgt hs j ≤ hgt hs i) ∧ (upAt hs i ≠ upAt hs j → hgt hs i ≠ hgt hs j)
theorem r1_pre {hs : List Int} {i : Nat} (hi : i < hs.length) : R1 hs (pre_ hs.length i) i := by
  by_cases h : hgt hs (pre_ hs.length i) = hgt hs i
  · refine ⟨by rw [h]; split <;> exact Int.le_refl _, fun z => absurd ?_ z⟩
    unfold upAt
    rw [next_eq hi h, h]
  · refine ⟨?_, fun _ => h⟩
    unfold upAt
    rw [next_pre hi h]
    by_cases hz : hgt hs (pre_ hs.length i) < hgt hs i
    · rw [if_pos (decide_eq_true hz)]
      omega
    · rw [if_neg (fun q => hz (of_decide_eq_true q))]
      omega
theorem turn_iff {hs : List Int} {i : Nat} (hi : i < hs.length) : isTurn hs i = decide (upAt hs (pre_ hs.length i) ≠ upAt hs i) := by
  have d0 : hs.getD i 0 = hgt hs i := rfl
  unfold isTurn
  rw [prevOf_eq, d0]
  by_cases h : hgt hs (pre_ hs.length i) = hgt hs i
  · rw [if_pos h]
    refine (decide_eq_false fun z => z ?_).symm
    unfold upAt
    rw [next_eq hi h, h]
  · rw [if_neg h]
    unfold upAt
    rw [next_pre hi h]
    obtain ⟨x, hx⟩ := other_some hi h
    have hn : nextOther hs i ≠ hgt hs i := by
      unfold nextOther
      rw [hx]
      unfold otherOf at hx
      have := List.find?_some hx
      exact of_decide_eq_true this
    generalize hgt hs i = b at *
    generalize hgt hs (pre_ hs.length i) = a at *
    generalize nextOther hs i = c at *
    by_cases h1 : a < b <;> by_cases h2 : c < b
    · rw [decide_eq_true h1, decide_eq_true h2, decide_eq_false (show ¬ b < c by omega)]
      rfl
    · rw [decide_eq_true h1, decide_eq_false h2, decide_eq_true (show b < c by omega)]
      rfl
    · rw [decide_eq_false h1, decide_eq_true h2, decide_eq_false (show ¬ b < c by omega)]
      rfl
    · rw [decide_eq_false h1, decide_eq_false h2, decide_eq_true (show b < c by omega)]
      rfl
theorem r1_trans {hs : List Int} {z x y : Nat} (e : upAt hs z = upAt hs x) (h1 : R1 hs z x) (h2 : R1 hs x y) : R1 hs z y := by
  unfold R1 at *
  rw [e] at h1 ⊢
  cases hx : upAt hs x with
  | true =>
    rw [hx] at h1 h2
    rw [if_pos rfl] at h1 h2 ⊢
    refine ⟨by omega, fun q => ?_⟩
    have := h2.2 q
    omega
  | false =>
    rw [hx] at h1 h2
    rw [if_neg Bool.false_ne_true] at h1 h2 ⊢
    refine ⟨by omega, fun q => ?_⟩
    have := h2.2 q
    omega
/-! ### only the turns matter -/
def hts (hs : List Int) (l : List Nat) : List Int := l.map (hgt hs)
def filtI (hs : List Int) : Nat → List Nat → List Nat
  | _, [] => []
  | z, x :: r => if upAt hs z = upAt hs x then filtI hs z r else x :: filtI hs x r
theorem cyc_rotL (hs : List Int) (A B : List Nat) (lo hi : Int) : cyc (marks (hts hs (A ++ B)) lo hi) = cyc (marks (hts hs (B ++ A)) lo hi) := by
  unfold hts
  rw [List.map_append, List.map_append, marks_app, marks_app, cyc_rot]
theorem phase1 {hs : List Int} {lo hi : Int} (hlh : lo < hi) : ∀ (B A : List Nat) (z : Nat), Cl (R1 hs) (A ++ z :: B) →
    Cl (R1 hs) (A ++ z :: filtI hs z B) ∧ cyc (marks (hts hs (A ++ z :: filtI hs z B)) lo hi) = cyc (marks (hts hs (A ++ z :: B)) lo hi)
  | [], A, z, h => ⟨h, rfl⟩
  | x :: r, A, z, h => by
    unfold filtI
    by_cases e : upAt hs z = upAt hs x
    · rw [if_pos e]
      have h1 : Cl (R1 hs) ((z :: x :: r) ++ A) := cl_rot A (z :: x :: r) h
      have h2 : R1 hs z x ∧ Ch (R1 hs) x (r ++ A) z := h1
      have h3 : Ch (R1 hs) z (r ++ A) z := ch_start (fun y hy => r1_trans e h2.1 hy) _ h2.2
      have h4 : Cl (R1 hs) (A ++ z :: r) := cl_rot (z :: r) A h3
      have ih := phase1 hlh r A z h4
      refine ⟨ih.1, ih.2.trans ?_⟩
      -- x is between its neighbours
      have e1 := cyc_rotL hs A (z :: r) lo hi
      have e2 := cyc_rotL hs A (z :: x :: r) lo hi
      rw [e1, e2]
      have e3 := cyc_rotL hs [z] (r ++ A) lo hi
      have e4 := cyc_rotL hs [z] (x :: (r ++ A)) lo hi
      have e5 : (z :: r) ++ A = [z] ++ (r ++ A) := rfl
      have e6 : (z :: x :: r) ++ A = [z] ++ (x :: (r ++ A)) := rfl
      rw [e5, e6, e3, e4]
      obtain ⟨n, hn, hxn⟩ : ∃ n, (r ++ A ++ [z]).head? = some n ∧ R1 hs x n := by
        cases hra : r ++ A with
        | nil =>
          rw [hra] at h2
          exact ⟨z, rfl, h2.2⟩
        | cons y t =>
          rw [hra] at h2
          exact ⟨y, rfl, h2.2.1⟩
      show cyc (marks (hts hs (r ++ A ++ [z])) lo hi) = cyc (marks (hgt hs x :: hts hs (r ++ A ++ [z])) lo hi)
      refine (cyc_mid hlh (n := hgt hs n) (p := hgt hs z) ?_ ?_ ?_).symm
      · unfold hts
        rw [List.head?_map, hn]
        rfl
      · unfold hts
        rw [List.getLast?_map, List.getLast?_append]
        rfl
      · obtain ⟨a1, _⟩ := h2.1
        obtain ⟨a2, _⟩ := hxn
        rw [e] at a1
        cases hx : upAt hs x with
        | true =>
          rw [hx, if_pos rfl] at a1 a2
          exact .inl ⟨a1, a2⟩
        | false =>
          rw [hx, if_neg Bool.false_ne_true] at a1 a2
          exact .inr ⟨a2, a1⟩
    · rw [if_neg e]
      have h' : Cl (R1 hs) ((A ++ [z]) ++ x :: r) := by
        rw [List.append_assoc]
        exact h
      have ih := phase1 hlh r (A ++ [z]) x h'
      rw [List.append_assoc, List.append_assoc] at ih
      exact ih
theorem filt_alt {hs : List Int} : ∀ (B : List Nat) (z b : Nat), (∀ y, (z :: B).getLast? = some y → upAt hs y ≠ upAt hs b) → Ch (fun i j => upAt hs i ≠ upAt hs j) z (filtI hs z B) b
  | [], z, b, h => h z rfl
  | x :: r, z, b, h => by
    unfold filtI
    by_cases e : upAt hs z = upAt hs x
    · rw [if_pos e]
      refine filt_alt r z b ?_
      intro y hy
      cases r with
      | nil =>
        have : z = y := Option.some.inj hy
        subst this
        rw [e]
        exact h x rfl
      | cons t r =>
        refine h y ?_
        rw [List.getLast?_cons_cons] at hy ⊢
        rw [List.getLast?_cons_cons]
        exact hy
    · rw [if_neg e]
      refine ⟨e, filt_alt r x b ?_⟩
      intro y hy
      refine h y ?_
      rw [List.getLast?_cons_cons]
      exact hy
def R2 (hs : List Int) (i j : Nat) : Prop := upAt hs j = (!upAt hs i) ∧ (if upAt hs i = true then hgt hs i < hgt hs j else hgt hs j < hgt hs i)
theorem r2_of {hs : List Int} {i j : Nat} (h : R1 hs i j ∧ upAt hs i ≠ upAt hs j) : R2 hs i j := by
  obtain ⟨⟨h1, h2⟩, h3⟩ := h
  have h4 := h2 h3
  refine ⟨?_, ?_⟩
  · cases hi : upAt hs i <;> cases hj : upAt hs j
    · rw [hi, hj] at h3
      exact absurd rfl h3
    · rfl
    · rfl
    · rw [hi, hj] at h3
      exact absurd rfl h3
  · split at h1
    · rename_i hu
      rw [if_pos hu]
      omega
    · rename_i hu
      rw [if_neg hu]
      omega
theorem r2_irr {hs : List Int} (i : Nat) : ¬ R2 hs i i := by
  rintro ⟨h, _⟩
  cases hu : upAt hs i <;> rw [hu] at h <;> cases h
/-- filtI over places that follow one another -/
theorem filt_turns {hs : List Int} : ∀ (B : List Nat) (z b : Nat), z < hs.length → Ch (fun i j => pre_ hs.length j = i ∧ j < hs.length) z B b → filtI hs z B = B.filter (isTurn hs)
  | [], _, _, _, _ => rfl
  | x :: r, z, b, hz, h => by
    obtain ⟨⟨h1, h2⟩, h3⟩ := h
    unfold filtI
    have ht := turn_iff h2
    rw [h1] at ht
    by_cases e : upAt hs z = upAt hs x
    · rw [if_pos e, List.filter_cons_of_neg (by rw [ht, decide_eq_false (fun q => q e)]; exact Bool.false_ne_true)]
      rw [← filt_turns r x b h2 h3]
      -- the same with z in x's place
      have : ∀ (l : List Nat), filtI hs z l = filtI hs x l := by
        intro l
        induction l with
        | nil => rfl
        | cons y l ih =>
          unfold filtI
          rw [e, ih]
      exact this r
    · rw [if_neg e, List.filter_cons_of_pos (by rw [ht]; exact decide_eq_true e), filt_turns r x b h2 h3]
theorem range_cl (n : Nat) : Cl (fun i j => pre_ n j = i ∧ j < n) (List.range n) := by
  refine cl_of _ ?_
  intro i x y hy hx
  rw [List.length_range] at hx
  have hi : i < n := by
    have := (List.getElem?_eq_some_iff.mp hy).1
    rwa [List.length_range] at this
  rw [List.getElem?_range hi] at hy
  rw [List.getElem?_range (pre_lt hi)] at hx
  cases hy
  cases hx
  exact ⟨rfl, hi⟩
theorem ch_last {α : Type} {R : α → α → Prop} : ∀ (l : List α) (a b y : α), Ch R a l b → (a :: l).getLast? = some y → R y b
  | [], a, b, y, h, hy => by
    have : a = y := Option.some.inj hy
    subst this
    exact h
  | x :: l, a, b, y, h, hy => by
    rw [List.getLast?_cons_cons] at hy
    exact ch_last l x b y h.2 hy
theorem hts_range (hs : List Int) : hts hs (List.range hs.length) = hs := by
  refine List.ext_getElem? fun i => ?_
  unfold hts
  rw [List.getElem?_map]
  by_cases hi : i < hs.length
  · rw [List.getElem?_range hi, getElem_hgt hi]
    rfl
  · rw [List.getElem?_eq_none (by rw [List.length_range]; omega), List.getElem?_eq_none (by omega)]
    rfl
theorem cyc_one (lo hi x : Int) : cyc (marks [x] lo hi) = 0 := by
  rw [marks_cons]
  by_cases ho : outP lo hi x = true
  · rw [if_pos ho]
    show adj _ [_] = 0
    unfold adj rise
    cases decide (hi ≤ x) <;> rfl
  · rw [if_neg ho]
    rfl
/-- a ring passes as often as its turns do; the turns go up and down -/
theorem turns_zig {hs : List Int} : Cl (R2 hs) (turnsOf hs) ∧ ∀ lo hi : Int, lo < hi → cyc (marks hs lo hi) = cyc (marks (hts hs (turnsOf hs)) lo hi) := by
  have rc := range_cl hs.length
  have r1 : ∀ x y, (pre_ hs.length y = x ∧ y < hs.length) → R1 hs x y := by
    rintro x y ⟨rfl, hy⟩
    exact r1_pre hy
  cases ht : turnsOf hs with
  | nil =>
    refine ⟨trivial, ?_⟩
    intro lo hi hlh
    show _ = 0
    cases hn : hs.length with
    | zero =>
      have : hs = [] := List.eq_nil_of_length_eq_zero hn
      subst this
      rfl
    | succ n =>
      have er : List.range hs.length = 0 :: (List.range n).map (· + 1) := by
        rw [hn, List.range_succ_eq_map]
      have rc2 := rc
      rw [er] at rc2
      have p := phase1 hlh ((List.range n).map (· + 1)) [] 0 (ch_mono r1 _ _ _ rc2)
      rw [filt_turns _ 0 0 (by omega) rc2] at p
      have e : ((List.range n).map (· + 1)).filter (isTurn hs) = [] := by
        have h0 : (List.range hs.length).filter (isTurn hs) = [] := ht
        rw [er, List.filter_cons] at h0
        split at h0
        · cases h0
        · exact h0
      rw [e] at p
      have q := p.2
      rw [List.nil_append, List.nil_append, ← er, hts_range] at q
      rw [← q]
      exact cyc_one lo hi _
  | cons t0 rest =>
    obtain ⟨P, S, hr, hP, h0, hS⟩ := List.filter_eq_cons_iff.mp (show (List.range hs.length).filter (isTurn hs) = t0 :: rest from ht)
    have rc2 := rc
    rw [hr] at rc2
    have rc3 : Ch (fun i j => pre_ hs.length j = i ∧ j < hs.length) t0 (S ++ P) t0 := cl_rot P (t0 :: S) rc2
    have lt0 : t0 < hs.length := by
      have : t0 ∈ List.range hs.length := by
        rw [hr]
        simp
      exact List.mem_range.mp this
    have ef : filtI hs t0 (S ++ P) = rest := by
      rw [filt_turns _ t0 t0 lt0 rc3, List.filter_append, hS]
      have : P.filter (isTurn hs) = [] := by
        rw [List.filter_eq_nil_iff]
        exact hP
      rw [this, List.append_nil]
    have c1 : Cl (R1 hs) ([] ++ t0 :: (S ++ P)) := ch_mono r1 _ _ _ rc3
    have alt := filt_alt (hs := hs) (S ++ P) t0 t0 (by
      intro y hy
      obtain ⟨h1, _⟩ := ch_last _ _ _ _ rc3 hy
      have tt := turn_iff lt0
      rw [h0, h1] at tt
      exact of_decide_eq_true tt.symm)
    rw [ef] at alt
    have p0 := phase1 (lo := 0) (hi := 1) (by omega) (S ++ P) [] t0 c1
    rw [ef] at p0
    refine ⟨ch_mono (fun x y h => r2_of h) _ _ _ (ch_and _ _ _ p0.1 alt), ?_⟩
    intro lo hi hlh
    have p := (phase1 hlh (S ++ P) [] t0 c1).2
    rw [ef] at p
    rw [List.nil_append, List.nil_append] at p
    rw [p]
    have e := cyc_rotL hs P (t0 :: S) lo hi
    rw [← hr, hts_range] at e
    exact e
/-! ### the removal that takes the flattest neighbours first -/
def rangesOf (hs : List Int) (left : List Nat) : List Int := (List.range left.length).map fun i => absI (hgt hs (left.getD i 0) - hgt hs (left.getD (pre_ left.length i) 0))
def firstMin (ns : List Int) : Nat := ns.findIdx fun x => decide (∀ y ∈ ns, x ≤ y)
def atOf (hs : List Int) (left : List Nat) : Nat := firstMin (rangesOf hs left)
def valFirst (hs : List Int) (a b : Nat) : Nat × Nat := if hgt hs a < hgt hs b then (a, b) else (b, a)
def stepPair (hs : List Int) (left : List Nat) : Nat × Nat := valFirst hs (left.getD (pre_ left.length (atOf hs left)) 0) (left.getD (atOf hs left) 0)
def without (left : List Nat) (pr : Nat × Nat) : List Nat := left.filter fun t => !(decide (t = pr.1) || decide (t = pr.2))
def removalGo (hs : List Int) : Nat → List Nat → List (Nat × Nat)
  | 0, _ => []
  | n + 1, left => if left = [] then [] else stepPair hs left :: removalGo hs n (without left (stepPair hs left))
def removal (hs : List Int) : List (Nat × Nat) := removalGo hs (turnsOf hs).length (turnsOf hs)
theorem ranges_len (hs : List Int) (left : List Nat) : (rangesOf hs left).length = left.length := by
  unfold rangesOf
  rw [List.length_map, List.length_range]
theorem least_exists : ∀ ns : List Int, ns ≠ [] → ∃ m, m ∈ ns ∧ ∀ y ∈ ns, m ≤ y
  | [], h => absurd rfl h
  | [x], _ => ⟨x, by simp, by simp⟩
  | x :: y :: r, _ => by
    obtain ⟨m, h1, h2⟩ := least_exists (y :: r) (by simp)
    by_cases h : x ≤ m
    · refine ⟨x, by simp, ?_⟩
      intro z hz
      rcases List.mem_cons.mp hz with rfl | hz
      · exact Int.le_refl _
      · have := h2 z hz
        omega
    · refine ⟨m, List.mem_cons_of_mem _ h1, ?_⟩
      intro z hz
      rcases List.mem_cons.mp hz with rfl | hz
      · omega
      · exact h2 z hz
theorem firstMin_spec {ns : List Int} (h : ns ≠ []) : ∃ m, ns[firstMin ns]? = some m ∧ ∀ y ∈ ns, m ≤ y := by
  obtain ⟨m, h1, h2⟩ := least_exists ns h
  have hl : firstMin ns < ns.length := by
    unfold firstMin
    exact List.findIdx_lt_length_of_exists ⟨m, h1, decide_eq_true h2⟩
  refine ⟨ns[firstMin ns], List.getElem?_eq_getElem hl, ?_⟩
  have := List.findIdx_getElem (p := fun x => decide (∀ y ∈ ns, x ≤ y)) (w := hl)
  exact of_decide_eq_true this
/-- one step: q and r are neighbours, the rest is closed again -/
theorem step_facts {hs : List Int} {left : List Nat} (hc : Cl (R2 hs) left) (nd : left.Nodup) (hne : left ≠ []) :
    ∃ (q r : Nat) (A B : List Nat), (stepPair hs left = (q, r) ∧ hgt hs q < hgt hs r ∨ stepPair hs left = (r, q) ∧ hgt hs r < hgt hs q) ∧
      without left (stepPair hs left) = A ++ B ∧ Cl (R2 hs) (q :: r :: (B ++ A)) ∧ q ∈ left ∧ r ∈ left ∧ left.length = (A ++ B).length + 2 ∧
      (∃ m, m = absI (hgt hs r - hgt hs q) ∧ Cl (fun i j => m ≤ absI (hgt hs j - hgt hs i)) (q :: r :: (B ++ A))) ∧
      (∀ lo hi : Int, cyc (marks (hts hs left) lo hi) = cyc (marks (hts hs (q :: r :: (B ++ A))) lo hi)) := by
  have h2 : 2 ≤ left.length := by
    have h1 := cl_len (fun x => r2_irr x) hc
    have h0 : left.length ≠ 0 := fun z => hne (List.eq_nil_of_length_eq_zero z)
    omega
  have rne : rangesOf hs left ≠ [] := by
    intro z
    have := ranges_len hs left
    rw [z] at this
    simp at this
    omega
  obtain ⟨m, gm, hm⟩ := firstMin_spec rne
  have hat : atOf hs left < left.length := by
    have := (List.getElem?_eq_some_iff.mp gm).1
    rwa [ranges_len] at this
  have em : m = absI (hgt hs (left.getD (atOf hs left) 0) - hgt hs (left.getD (pre_ left.length (atOf hs left)) 0)) := by
    have gm2 : (rangesOf hs left)[atOf hs left]? = some m := gm
    generalize atOf hs left = k at gm2 hat ⊢
    unfold rangesOf at gm2
    rw [List.getElem?_map, List.getElem?_range hat] at gm2
    exact (Option.some.inj gm2).symm
  have dC : Cl (fun i j => m ≤ absI (hgt hs j - hgt hs i)) left := by
    refine cl_of _ ?_
    intro i x y hy hx
    have hi : i < left.length := (List.getElem?_eq_some_iff.mp hy).1
    have e1 : left.getD i 0 = y := by
      rw [List.getD_eq_getElem?_getD, hy]
      rfl
    have e2 : left.getD (pre_ left.length i) 0 = x := by
      rw [List.getD_eq_getElem?_getD, hx]
      rfl
    refine hm _ ?_
    unfold rangesOf
    refine List.mem_map.mpr ⟨i, List.mem_range.mpr hi, ?_⟩
    rw [e1, e2]
  unfold stepPair
  generalize atOf hs left = k at *
  -- the two and the rest
  obtain ⟨q, r, A, B, hq, hr, hrot, hwo, hl⟩ : ∃ (q r : Nat) (A B : List Nat), left.getD (pre_ left.length k) 0 = q ∧ left.getD k 0 = r ∧
      (∃ U W, left = U ++ W ∧ W ++ U = q :: r :: (B ++ A)) ∧ (left.filter fun t => !(decide (t = q) || decide (t = r))) = A ++ B ∧ left.length = (A ++ B).length + 2 := by
    by_cases hk : k = 0
    · subst hk
      cases left with
      | nil => exact absurd rfl hne
      | cons r0 t =>
        have tne : t ≠ [] := by
          rintro rfl
          simp at h2
        refine ⟨t.getLast tne, r0, [], t.dropLast, ?_, rfl, ⟨r0 :: t.dropLast, [t.getLast tne], ?_, ?_⟩, ?_, ?_⟩
        · unfold pre_
          have e1 : (r0 :: t).getLast? = (r0 :: t)[(r0 :: t).length - 1]? := List.getLast?_eq_getElem?
          rw [if_pos rfl, List.getD_eq_getElem?_getD, ← e1, List.getLast?_cons, List.getLast?_eq_getLast tne]
          rfl
        · rw [List.cons_append, List.dropLast_concat_getLast]
        · rw [List.append_nil]
          rfl
        · have e : r0 :: t = r0 :: (t.dropLast ++ [t.getLast tne]) := by rw [List.dropLast_concat_getLast]
          have nd' := nd
          rw [e] at nd'
          have n1 := (List.nodup_cons.mp nd').1
          have n2 := (List.nodup_append.mp (List.nodup_cons.mp nd').2).2.2
          rw [e, List.filter_cons_of_neg (by simp), List.filter_append, List.filter_cons_of_neg (by simp), List.filter_nil, List.append_nil, List.nil_append]
          refine List.filter_eq_self.mpr ?_
          intro x hx
          have c1 : x ≠ t.getLast tne := fun z => n2 x hx _ (by simp) z
          have c2 : x ≠ r0 := fun z => n1 (z ▸ List.mem_append_left _ hx)
          simp [c1, c2]
        · rw [List.nil_append, List.length_dropLast, List.length_cons]
          have : t.length ≠ 0 := fun z => tne (List.eq_nil_of_length_eq_zero z)
          omega
    · have hk1 : k - 1 < left.length := by omega
      have hk2 : k - 1 + 1 < left.length := by omega
      have e0 : left = left.take (k - 1) ++ left[k - 1] :: left[k - 1 + 1] :: left.drop (k - 1 + 1 + 1) := by
        rw [← List.drop_eq_getElem_cons hk2, ← List.drop_eq_getElem_cons hk1, List.take_append_drop]
      have ek : k - 1 + 1 = k := by omega
      refine ⟨left[k - 1], left[k - 1 + 1], left.take (k - 1), left.drop (k - 1 + 1 + 1), ?_, ?_, ⟨left.take (k - 1), left[k - 1] :: left[k - 1 + 1] :: left.drop (k - 1 + 1 + 1), e0, rfl⟩, ?_, ?_⟩
      · unfold pre_
        rw [if_neg hk, List.getD_eq_getElem?_getD, List.getElem?_eq_getElem hk1]
        rfl
      · rw [List.getD_eq_getElem?_getD, show left[k]? = left[k - 1 + 1]? by rw [ek], List.getElem?_eq_getElem hk2]
        rfl
      · generalize left.take (k - 1) = A at e0
        generalize left.drop (k - 1 + 1 + 1) = B at e0
        generalize left[k - 1] = q at e0
        generalize left[k - 1 + 1] = r at e0
        have nd' := nd
        rw [e0] at nd'
        obtain ⟨n1, n2, n3⟩ := List.nodup_append.mp nd'
        obtain ⟨n4, n5⟩ := List.nodup_cons.mp n2
        obtain ⟨n6, n7⟩ := List.nodup_cons.mp n5
        rw [e0, List.filter_append, List.filter_cons_of_neg (by simp), List.filter_cons_of_neg (by simp)]
        congr 1
        · refine List.filter_eq_self.mpr ?_
          intro x hx
          have c1 : x ≠ q := n3 x hx q (by simp)
          have c2 : x ≠ r := n3 x hx r (by simp)
          simp [c1, c2]
        · refine List.filter_eq_self.mpr ?_
          intro x hx
          have c1 : x ≠ q := fun z => n4 (List.mem_cons_of_mem _ (z ▸ hx))
          have c2 : x ≠ r := fun z => n6 (z ▸ hx)
          simp [c1, c2]
      · rw [List.length_append, List.length_take, List.length_drop]
        omega
  rw [hq, hr]
  obtain ⟨U, W, hU, hW⟩ := hrot
  have c2 : Cl (R2 hs) (q :: r :: (B ++ A)) := by
    rw [← hW]
    refine cl_rot U W ?_
    rw [← hU]
    exact hc
  have hqr : R2 hs q r := c2.1
  have wo : ∀ a b : Nat, (a = q ∧ b = r) ∨ (a = r ∧ b = q) → without left (a, b) = A ++ B := by
    intro a b h
    unfold without
    rcases h with ⟨rfl, rfl⟩ | ⟨rfl, rfl⟩
    · exact hwo
    · rw [← hwo]
      congr 1
      funext t
      rw [Bool.or_comm]
  have memq : q ∈ left := by
    rw [hU]
    have : q ∈ W ++ U := by
      rw [hW]
      simp
    rcases List.mem_append.mp this with h | h
    · exact List.mem_append_right _ h
    · exact List.mem_append_left _ h
  have memr : r ∈ left := by
    rw [hU]
    have : r ∈ W ++ U := by
      rw [hW]
      simp
    rcases List.mem_append.mp this with h | h
    · exact List.mem_append_right _ h
    · exact List.mem_append_left _ h
  refine ⟨q, r, A, B, ?_, ?_, c2, memq, memr, hl, ⟨m, ?_, ?_⟩, ?_⟩
  · unfold valFirst
    by_cases h : hgt hs q < hgt hs r
    · rw [if_pos h]
      exact .inl ⟨rfl, h⟩
    · rw [if_neg h]
      refine .inr ⟨rfl, ?_⟩
      have := hqr.2
      split at this <;> omega
  · unfold valFirst
    split
    · exact wo q r (.inl ⟨rfl, rfl⟩)
    · exact wo r q (.inr ⟨rfl, rfl⟩)
  · rw [em, hq, hr]
  · rw [← hW]
    refine cl_rot U W ?_
    rw [← hU]
    exact dC
  · intro lo hi
    rw [hU, ← hW]
    exact cyc_rotL hs U W lo hi
end RS
set_option Elab.async false
set_option linter.all false
set_option maxRecDepth 100000
namespace RS
open PySem PySem.Spec PyProof.Rows L2
/-! ### what a step of the removal leaves -/
theorem step_rest {hs : List Int} {q r : Nat} {S : List Nat} (hc : Cl (R2 hs) (q :: r :: S)) (hd : Cl (fun i j => absI (hgt hs r - hgt hs q) ≤ absI (hgt hs j - hgt hs i)) (q :: r :: S)) :
    Cl (R2 hs) S ∧ ∀ lo hi : Int, lo < hi → cyc (marks (hts hs (q :: r :: S)) lo hi) = cyc (marks (hts hs S) lo hi) + (if hgt hs q < hgt hs r then inSw lo hi (hgt hs q) (hgt hs r) else inSw lo hi (hgt hs r) (hgt hs q)) := by
  obtain ⟨h1, h2⟩ := hc
  obtain ⟨_, d2⟩ := hd
  cases S with
  | nil =>
    refine ⟨trivial, ?_⟩
    intro lo hi hlh
    show cyc (marks [hgt hs q, hgt hs r] lo hi) = 0 + _
    rw [Nat.zero_add]
    by_cases h : hgt hs q < hgt hs r
    · rw [if_pos h]
      exact (cyc_two hlh h).1
    · rw [if_neg h]
      have h' : hgt hs r < hgt hs q := by
        have := h1.2
        split at this <;> omega
      exact (cyc_two hlh h').2
  | cons s T =>
    obtain ⟨rs, hT⟩ := h2
    obtain ⟨dr, dT⟩ := d2
    obtain ⟨p, hp⟩ : ∃ p, (s :: T).getLast? = some p := ⟨_, List.getLast?_eq_getLast (List.cons_ne_nil s T)⟩
    have pq := ch_last _ _ _ _ hT hp
    have dp := ch_last _ _ _ _ dT hp
    have fact : (hgt hs q < hgt hs r → hgt hs r ≤ hgt hs p ∧ hgt hs s ≤ hgt hs q) ∧ (hgt hs r < hgt hs q → hgt hs p ≤ hgt hs r ∧ hgt hs q ≤ hgt hs s) ∧ R2 hs p s := by
      unfold R2 at *
      unfold absI at dr dp
      generalize hgt hs q = a at *
      generalize hgt hs r = b at *
      generalize hgt hs p = c at *
      generalize hgt hs s = e at *
      cases hu : upAt hs p with
      | true =>
        rw [hu] at pq
        have uq : upAt hs q = false := pq.1
        rw [uq] at h1
        have ur : upAt hs r = true := h1.1
        rw [ur] at rs
        rw [if_pos rfl] at pq rs
        rw [if_neg Bool.false_ne_true] at h1
        have i1 := pq.2
        have i2 := h1.2
        have i3 := rs.2
        have k1 : c ≤ b := by
          split at dp <;> split at dp <;> omega
        have k2 : a ≤ e := by
          split at dr <;> split at dr <;> omega
        refine ⟨fun z => by omega, fun _ => ⟨k1, k2⟩, rs.1, ?_⟩
        rw [if_pos rfl]
        omega
      | false =>
        rw [hu] at pq
        have uq : upAt hs q = true := pq.1
        rw [uq] at h1
        have ur : upAt hs r = false := h1.1
        rw [ur] at rs
        rw [if_neg Bool.false_ne_true] at pq rs
        rw [if_pos rfl] at h1
        have i1 := pq.2
        have i2 := h1.2
        have i3 := rs.2
        have k1 : b ≤ c := by
          split at dp <;> split at dp <;> omega
        have k2 : e ≤ a := by
          split at dr <;> split at dr <;> omega
        refine ⟨fun _ => ⟨k1, k2⟩, fun z => by omega, rs.1, ?_⟩
        rw [if_neg Bool.false_ne_true]
        omega
    obtain ⟨f1, f2, f3⟩ := fact
    have lastR : ∀ x, (s :: T).getLast? = some x → x = p := fun x hx => by
      rw [hp] at hx
      exact (Option.some.inj hx).symm
    constructor
    · -- closed again
      show Ch (R2 hs) s T s
      have gen : ∀ (l : List Nat) (a b b' : Nat), Ch (R2 hs) a l b → (∀ y, (a :: l).getLast? = some y → R2 hs y b') → Ch (R2 hs) a l b' := by
        intro l
        induction l with
        | nil =>
          intro a b b' _ h
          exact h a rfl
        | cons x l ih =>
          intro a b b' h h'
          refine ⟨h.1, ih x b b' h.2 fun y hy => h' y ?_⟩
          rw [List.getLast?_cons_cons]
          exact hy
      refine gen T s q s hT ?_
      intro y hy
      rw [lastR y hy]
      exact f3
    · intro lo hi hlh
      have hh : (hts hs (s :: T)).head? = some (hgt hs s) := rfl
      have hl : (hts hs (s :: T)).getLast? = some (hgt hs p) := by
        unfold hts
        rw [List.getLast?_map, hp]
        rfl
      by_cases h : hgt hs q < hgt hs r
      · rw [if_pos h]
        obtain ⟨k1, k2⟩ := f1 h
        exact cyc_pair hlh hh hl h k1 k2
      · rw [if_neg h]
        have h' : hgt hs r < hgt hs q := by
          have := h1.2
          split at this <;> omega
        obtain ⟨k1, k2⟩ := f2 h'
        exact cyc_pair' hlh hh hl h' k1 k2
def swCount (sw : List (Int × Int)) (lo hi : Int) : Nat := (sw.map fun s => inSw lo hi s.1 s.2).sum
def hPair (hs : List Int) (pr : Nat × Nat) : Int × Int := (hgt hs pr.1, hgt hs pr.2)
structure RemOk (hs : List Int) (left : List Nat) (prs : List (Nat × Nat)) : Prop where
  cnt : ∀ lo hi : Int, lo < hi → cyc (marks (hts hs left) lo hi) = swCount (prs.map (hPair hs)) lo hi
  mem : ∀ pr ∈ prs, pr.1 ∈ left ∧ pr.2 ∈ left ∧ hgt hs pr.1 < hgt hs pr.2
  len : 2 * prs.length = left.length
theorem step_next {hs : List Int} {left : List Nat} (hc : Cl (R2 hs) left) (nd : left.Nodup) (hne : left ≠ []) :
    Cl (R2 hs) (without left (stepPair hs left)) ∧ (without left (stepPair hs left)).Nodup ∧ (without left (stepPair hs left)).length + 2 = left.length ∧
    (stepPair hs left).1 ∈ left ∧ (stepPair hs left).2 ∈ left ∧ hgt hs (stepPair hs left).1 < hgt hs (stepPair hs left).2 ∧
    ∀ lo hi : Int, lo < hi → cyc (marks (hts hs left) lo hi) = inSw lo hi (hgt hs (stepPair hs left).1) (hgt hs (stepPair hs left).2) + cyc (marks (hts hs (without left (stepPair hs left))) lo hi) := by
  obtain ⟨q, r, A, B, hpr, hwo, c2, mq, mr, hl, ⟨m, em, dC⟩, hcy⟩ := step_facts hc nd hne
  subst em
  obtain ⟨c3, hcount⟩ := step_rest c2 dC
  have nd2 : (without left (stepPair hs left)).Nodup := nd.filter _
  refine ⟨?_, nd2, ?_, ?_, ?_, ?_, ?_⟩
  · rw [hwo]
    exact cl_rot B A c3
  · rw [hwo]
    omega
  · rcases hpr with ⟨e, _⟩ | ⟨e, _⟩ <;> rw [e]
    · exact mq
    · exact mr
  · rcases hpr with ⟨e, _⟩ | ⟨e, _⟩ <;> rw [e]
    · exact mr
    · exact mq
  · rcases hpr with ⟨e, h⟩ | ⟨e, h⟩ <;> rw [e] <;> exact h
  · intro lo hi hlh
    rw [hcy, hcount lo hi hlh, hwo, cyc_rotL hs A B lo hi]
    rcases hpr with ⟨e, h⟩ | ⟨e, h⟩
    · rw [e, if_pos h]
      exact Nat.add_comm _ _
    · rw [e, if_neg (by omega)]
      exact Nat.add_comm _ _
theorem rem_ok {hs : List Int} : ∀ (n : Nat) (left : List Nat), left.length ≤ n → Cl (R2 hs) left → left.Nodup → RemOk hs left (removalGo hs n left)
  | 0, left, hn, _, _ => by
    have : left = [] := List.eq_nil_of_length_eq_zero (by omega)
    subst this
    exact ⟨fun _ _ _ => rfl, (fun pr h => nomatch h), rfl⟩
  | n + 1, left, hn, hc, nd => by
    unfold removalGo
    by_cases hne : left = []
    · rw [if_pos hne]
      subst hne
      exact ⟨fun _ _ _ => rfl, (fun pr h => nomatch h), rfl⟩
    · rw [if_neg hne]
      obtain ⟨s1, s2, s3, s4, s5, s6, s7⟩ := step_next hc nd hne
      have ih := rem_ok n (without left (stepPair hs left)) (by omega) s1 s2
      refine ⟨?_, ?_, ?_⟩
      · intro lo hi hlh
        rw [s7 lo hi hlh, ih.cnt lo hi hlh]
        unfold swCount
        rw [List.map_cons, List.map_cons, List.sum_cons]
        rfl
      · intro pr hpr
        rcases List.mem_cons.mp hpr with rfl | hpr
        · exact ⟨s4, s5, s6⟩
        · obtain ⟨a, b, c⟩ := ih.mem pr hpr
          exact ⟨(List.mem_filter.mp a).1, (List.mem_filter.mp b).1, c⟩
      · have := ih.len
        rw [List.length_cons]
        omega
theorem turns_nodup (hs : List Int) : (turnsOf hs).Nodup := by
  unfold turnsOf
  exact List.nodup_range.filter _
theorem removal_ok (hs : List Int) : RemOk hs (turnsOf hs) (removal hs) := rem_ok _ _ (Nat.le_refl _) turns_zig.1 (turns_nodup hs)
/-! ### the swings -/
def lexLe (a b : Int × Int) : Bool := decide (a.1 < b.1 ∨ (a.1 = b.1 ∧ a.2 ≤ b.2))
def swingsL (hs : List Int) : List (Int × Int) := (removal hs).map (hPair hs)
def swingsOf (hs : List Int) : List (Int × Int) := (swingsL hs).mergeSort lexLe
theorem lex_trans (a b c : Int × Int) (h1 : lexLe a b = true) (h2 : lexLe b c = true) : lexLe a c = true := by
  unfold lexLe at *
  have h1 := of_decide_eq_true h1
  have h2 := of_decide_eq_true h2
  refine decide_eq_true ?_
  omega
theorem lex_total (a b : Int × Int) : (lexLe a b || lexLe b a) = true := by
  unfold lexLe
  by_cases h : a.1 < b.1 ∨ (a.1 = b.1 ∧ a.2 ≤ b.2)
  · rw [decide_eq_true h]
    rfl
  · rw [decide_eq_true (show b.1 < a.1 ∨ (b.1 = a.1 ∧ b.2 ≤ a.2) by omega), Bool.or_true]
theorem lex_anti {a b : Int × Int} (h1 : lexLe a b = true) (h2 : lexLe b a = true) : a = b := by
  unfold lexLe at *
  have h1 := of_decide_eq_true h1
  have h2 := of_decide_eq_true h2
  refine Prod.ext ?_ ?_ <;> omega
theorem swings_perm (hs : List Int) : (swingsOf hs).Perm (swingsL hs) := List.mergeSort_perm _ _
theorem swings_sorted (hs : List Int) : (swingsOf hs).Pairwise fun a b => lexLe a b = true := List.pairwise_mergeSort RS.lex_trans RS.lex_total _
theorem sorted_one : ∀ {l m : List (Int × Int)}, l.Perm m → (l.Pairwise fun a b => lexLe a b = true) → (m.Pairwise fun a b => lexLe a b = true) → l = m
  | [], m, p, _, _ => (List.nil_perm.mp p).symm
  | a :: l, [], p, _, _ => absurd (List.perm_nil.mp p) (by simp)
  | a :: l, b :: m, p, hl, hm => by
    have e : a = b := by
      rw [List.pairwise_cons] at hl hm
      have ha : a ∈ b :: m := p.mem_iff.mp (by simp)
      have hb : b ∈ a :: l := p.mem_iff.mpr (by simp)
      rcases List.mem_cons.mp ha with h | h
      · exact h
      · rcases List.mem_cons.mp hb with h' | h'
        · exact h'.symm
        · exact lex_anti (hl.1 b h') (hm.1 a h)
    subst e
    rw [sorted_one ((List.perm_cons a).mp p) (List.pairwise_cons.mp hl).2 (List.pairwise_cons.mp hm).2]
theorem swCount_perm {l m : List (Int × Int)} (p : l.Perm m) (lo hi : Int) : swCount l lo hi = swCount m lo hi := by
  unfold swCount
  exact (p.map _).sum_nat
theorem swings_count {hs : List Int} {lo hi : Int} (hlh : lo < hi) : swCount (swingsOf hs) lo hi = cyc (marks hs lo hi) := by
  rw [swCount_perm (swings_perm hs), turns_zig.2 lo hi hlh, (removal_ok hs).cnt lo hi hlh]
  rfl
theorem swings_mem {hs : List Int} : ∀ s ∈ swingsOf hs, s.1 ∈ hs ∧ s.2 ∈ hs ∧ s.1 < s.2 := by
  intro s hs'
  obtain ⟨pr, hpr, rfl⟩ := List.mem_map.mp ((swings_perm hs).mem_iff.mp hs')
  obtain ⟨a, b, c⟩ := (removal_ok hs).mem pr hpr
  have m : ∀ i, i ∈ turnsOf hs → hgt hs i ∈ hs := by
    intro i hi
    exact List.mem_of_getElem? (getElem_hgt (turns_lt i hi))
  exact ⟨m _ a, m _ b, c⟩
theorem swings_len (hs : List Int) : 2 * (swingsOf hs).length = (turnsOf hs).length := by
  rw [(swings_perm hs).length_eq]
  unfold swingsL
  rw [List.length_map]
  exact (removal_ok hs).len
end RS
set_option Elab.async false
set_option linter.all false
set_option maxRecDepth 100000
namespace RS
open PySem PySem.Spec PyProof.Rows L2
/-! ### slices of ints, whatever the bounds -/
/-! ### data: tuples of ints in a list -/
def dTups (tss : List (List Int)) : List PyData := tss.map fun ts => .tuple (dInts ts)
/-- refs to tuples of ints -/
def Tups (K : PySem.W.Frag) (H : Hp) (ps : List Addr) (tss : List (List Int)) : Prop := ps.length = tss.length ∧ ∀ (i : Nat) (p : Addr) (ts : List Int), ps[i]? = some p → tss[i]? = some ts → SqT K H p (ts.map V.int)
theorem Tups.nil {K : PySem.W.Frag} {H : Hp} : Tups K H [] [] := ⟨rfl, fun i p ts h => by simp at h⟩
theorem Tups.cons {K : PySem.W.Frag} {H : Hp} {p : Addr} {ts : List Int} {ps : List Addr} {tss : List (List Int)} (h : SqT K H p (ts.map V.int)) (t : Tups K H ps tss) : Tups K H (p :: ps) (ts :: tss) := by
  refine ⟨by rw [List.length_cons, List.length_cons, t.1], ?_⟩
  intro i q us h1 h2
  cases i with
  | zero =>
    cases h1
    cases h2
    exact h
  | succ i => exact t.2 i q us h1 h2
theorem Tups.snoc {K : PySem.W.Frag} {H : Hp} {p : Addr} {ts : List Int} {ps : List Addr} {tss : List (List Int)} (t : Tups K H ps tss) (h : SqT K H p (ts.map V.int)) : Tups K H (ps ++ [p]) (tss ++ [ts]) := by
  refine ⟨by rw [List.length_append, List.length_append, t.1]; rfl, ?_⟩
  intro i q us h1 h2
  by_cases hi : i < ps.length
  · rw [List.getElem?_append_left hi] at h1
    rw [List.getElem?_append_left (by rw [← t.1]; exact hi)] at h2
    exact t.2 i q us h1 h2
  · rw [List.getElem?_append_right (by omega)] at h1
    rw [List.getElem?_append_right (by rw [← t.1]; omega), ← t.1] at h2
    cases hz : i - ps.length with
    | zero =>
      rw [hz] at h1 h2
      cases h1
      cases h2
      exact h
    | succ m =>
      rw [hz] at h1
      simp at h1
theorem Tups.dp {K : PySem.W.Frag} {H : Hp} : ∀ {ps : List Addr} {tss : List (List Int)}, Tups K H ps tss → DpAll K H (ps.map V.ref) (dTups tss)
  | [], [], _ => .nil
  | [], _ :: _, t => by cases t.1
  | _ :: _, [], t => by cases t.1
  | p :: ps, ts :: tss, t => by
    refine .cons (.tup (t.2 0 p ts rfl rfl) (dpInts ts)) (Tups.dp ⟨Nat.succ.inj t.1, fun i q us h1 h2 => t.2 (i + 1) q us h1 h2⟩)
end RS
set_option Elab.async false
set_option linter.all false
set_option maxRecDepth 100000
namespace RS
open PySem PySem.Spec PyProof.Rows L2
theorem natInts_get {left : List Nat} {i : Nat} {t : Nat} (h : left[i]? = some t) : (natInts left)[i]? = some (t : Int) := by
  unfold natInts
  rw [List.getElem?_map, h]
  rfl
theorem natInts_len (left : List Nat) : (natInts left).length = left.length := List.length_map ..
theorem natInts_prev {left : List Nat} {i : Nat} (hi : i < left.length) : prevOf (natInts left) i = ((left.getD (pre_ left.length i) 0 : Nat) : Int) := by
  have hp := pre_lt hi
  unfold prevOf
  rw [natInts_len]
  show (natInts left).getD (pre_ left.length i) 0 = _
  rw [List.getD_eq_getElem?_getD, natInts_get (List.getElem?_eq_getElem hp), List.getD_eq_getElem?_getD, List.getElem?_eq_getElem hp]
  rfl
theorem getD_mem {left : List Nat} {i : Nat} (hi : i < left.length) : left.getD i 0 ∈ left := by
  rw [List.getD_eq_getElem?_getD, List.getElem?_eq_getElem hi]
  exact List.getElem_mem hi
theorem ranges_get {hs : List Int} {left : List Nat} {i t : Nat} (h : left[i]? = some t) :
    (rangesOf hs left)[i]? = some (absI (hgt hs t - hgt hs (left.getD (pre_ left.length i) 0))) := by
  have hi : i < left.length := (List.getElem?_eq_some_iff.mp h).1
  unfold rangesOf
  rw [List.getElem?_map, List.getElem?_range hi]
  show some (absI (hgt hs (left.getD i 0) - _)) = _
  rw [List.getD_eq_getElem?_getD, h]
  rfl
theorem firstMin_lt {ns : List Int} {j : Nat} {x : Int} (h : j < firstMin ns) (hx : ns[j]? = some x) : ¬ ∀ y ∈ ns, x ≤ y := by
  intro hz
  have hj : j < ns.length := (List.getElem?_eq_some_iff.mp hx).1
  have := List.not_of_lt_findIdx (p := fun x => decide (∀ y ∈ ns, x ≤ y)) h
  have e2 : ns[j] = x := (List.getElem?_eq_some_iff.mp hx).2
  rw [e2, decide_eq_true hz] at this
  cases this
theorem removalGo_step {hs : List Int} {n : Nat} {left : List Nat} (hne : left ≠ []) (hn : left.length ≤ n) :
    removalGo hs n left = stepPair hs left :: removalGo hs (n - 1) (without left (stepPair hs left)) := by
  cases n with
  | zero =>
    have : left = [] := List.eq_nil_of_length_eq_zero (by omega)
    exact absurd this hne
  | succ n =>
    show (if left = [] then [] else stepPair hs left :: removalGo hs n (without left (stepPair hs left))) = _
    rw [if_neg hne]
    rfl
theorem removalGo_nil (hs : List Int) (n : Nat) : removalGo hs n [] = [] := by
  cases n with
  | zero => rfl
  | succ n => rfl
end RS
set_option Elab.async false
set_option linter.all false
set_option maxRecDepth 100000
namespace RS
open PySem PySem.Spec PyProof.Rows L2
/-! ### sorted of a list of pairs that stand in the heap -/
def keyV (H : Hp) (x : V) : Int × Int := match x with
  | .ref t => match H t with
    | some (.tup [.int a, .int b]) => (a, b)
    | _ => (0, 0)
  | _ => (0, 0)
def Pairs (H : Hp) (qs : List Addr) (sw : List (Int × Int)) : Prop := qs.length = sw.length ∧ ∀ (i : Nat) (q : Addr) (s : Int × Int), qs[i]? = some q → sw[i]? = some s → H q = some (.tup [.int s.1, .int s.2])
theorem key_of {H : Hp} {t : Addr} {s : Int × Int} (h : H t = some (.tup [.int s.1, .int s.2])) : keyV H (.ref t) = s := by
  show (match H t with
    | some (.tup [.int a, .int b]) => (a, b)
    | _ => (0, 0)) = s
  rw [h]
theorem Pairs.keys {H : Hp} {qs : List Addr} {sw : List (Int × Int)} (p : Pairs H qs sw) : (qs.map V.ref).map (keyV H) = sw := by
  refine List.ext_getElem? fun i => ?_
  rw [List.getElem?_map, List.getElem?_map]
  cases hq : qs[i]? with
  | none =>
    have : sw[i]? = none := by
      rw [List.getElem?_eq_none_iff] at hq ⊢
      rw [← p.1]
      exact hq
    rw [this]
    rfl
  | some q =>
    have hi : i < sw.length := by
      rw [← p.1]
      exact (List.getElem?_eq_some_iff.mp hq).1
    obtain ⟨s, hs⟩ : ∃ s, sw[i]? = some s := ⟨_, List.getElem?_eq_getElem hi⟩
    rw [hs]
    exact congrArg some (key_of (p.2 i q s hq hs))
theorem Pairs.mem {H : Hp} {qs : List Addr} {sw : List (Int × Int)} (p : Pairs H qs sw) : ∀ x ∈ qs.map V.ref, ∃ t, x = V.ref t ∧ H t = some (.tup [.int (keyV H x).1, .int (keyV H x).2]) := by
  intro x hx
  obtain ⟨q, hq, rfl⟩ := List.mem_map.mp hx
  obtain ⟨i, hi⟩ := List.mem_iff_getElem?.mp hq
  have hl : i < sw.length := by
    rw [← p.1]
    exact (List.getElem?_eq_some_iff.mp hi).1
  obtain ⟨s, hs⟩ : ∃ s, sw[i]? = some s := ⟨_, List.getElem?_eq_getElem hl⟩
  have h := p.2 i q s hi hs
  refine ⟨q, rfl, ?_⟩
  rw [key_of h]
  exact h
def addrV : V → Addr
  | .ref t => t
  | _ => 0
/-- what sorted gives of them -/
theorem Pairs.sorted {H : Hp} {qs : List Addr} {sw : List (Int × Int)} (p : Pairs H qs sw) {ys : List V} (h1 : SrtO.Srtd (ltP (keyV H)) ys) (h2 : ys.Perm (qs.map V.ref)) :
    ∃ ps : List Addr, ys = ps.map V.ref ∧ Pairs H ps (sw.mergeSort lexLe) := by
  have hr : ∀ x ∈ ys, ∃ t, x = V.ref t ∧ H t = some (.tup [.int (keyV H x).1, .int (keyV H x).2]) := fun x hx => p.mem x (h2.mem_iff.mp hx)
  refine ⟨ys.map addrV, ?_, ?_⟩
  · rw [List.map_map]
    have e : ys.map (V.ref ∘ addrV) = ys.map id := by
      refine List.map_congr_left ?_
      intro x hx
      obtain ⟨t, rfl, _⟩ := hr x hx
      rfl
    rw [e, List.map_id]
  · have ek : ys.map (keyV H) = sw.mergeSort lexLe := by
      refine sorted_one ?_ ?_ (List.pairwise_mergeSort RS.lex_trans RS.lex_total _)
      · have := h2.map (keyV H)
        rw [p.keys] at this
        exact this.trans (List.mergeSort_perm _ _).symm
      · refine List.pairwise_map.mpr (h1.imp ?_)
        intro x y hxy
        have := SrtO.lexB_no.mp hxy
        unfold lexLe
        refine decide_eq_true ?_
        omega
    refine ⟨?_, ?_⟩
    · rw [List.length_map, ← ek, List.length_map]
    · intro i q s hq hs
      rw [← ek, List.getElem?_map] at hs
      rw [List.getElem?_map] at hq
      cases hy : ys[i]? with
      | none =>
        rw [hy] at hq
        cases hq
      | some y =>
        rw [hy] at hq hs
        obtain ⟨t, rfl, ht⟩ := hr y (List.mem_of_getElem? hy)
        cases hq
        cases hs
        exact ht
end RS
set_option Elab.async false
set_option linter.all false
set_option maxRecDepth 100000
namespace RS
open PySem PySem.Spec PyProof.Rows L2
/-! ### sorted of a tuple of pairs -/
section
variable {prog : Program} {w : World} {A : Around} {E : Value → Shared → Prop} {s : Shared}
theorem collect_tup {l : Addr} {vs : List Value} {Q : List Value → Shared → Prop} (ht : s.heap.IsTuple l vs.toArray)
    (h : ∀ h', (∀ b o, s.heap.get? b = some o → h'.get? b = some o) → s.heap.objs.size ≤ h'.objs.size → Q vs { s with heap := h' })
    (hsz : vs.length ≤ sizeLine) : wpAny (model prog w) A (collect (.ref l)) Q E s := by
  obtain ⟨o, ho, hc, n, hd⟩ := ht
  unfold collect
  refine wpAny_bind (wpAny_runValue (codeAny_builtin entry_proto_collect' ?_))
  show wpAny _ _ (do again (.builtin "list.__iadd__" ⟨[← newList [], .ref l], []⟩)) _ _ s
  refine wpAny_bind (wpAny_newList ?_)
  refine wpAny_pure ⟨Code.quiet_builtin _ (by decide +kernel), codeAny_builtin entry_list_iadd' ?_⟩
  show wpAny _ _ (Builtin.List.listExtendWith (.ref s.heap.objs.size) (.ref l) (.ref s.heap.objs.size)) _ _ { s with heap := s.heap.push (seqObj "list" #[] 0) }
  unfold Builtin.List.listExtendWith
  have ho2 : (s.heap.push (seqObj "list" #[] 0)).get? l = some o := Heap.get?_push_of_some _ ho
  have new : (s.heap.push (seqObj "list" #[] 0)).get? s.heap.objs.size = some (seqObj "list" #[] 0) := Heap.get?_push_size _ rfl
  refine wpAny_bind (wpAny_typeOf (T := "tuple") ⟨o, ho2, hc⟩ ?_)
  have c1 : (Value.type "tuple" == Value.type "tuple") = true := by rfl
  rw [if_pos (by rw [c1]; simp)]
  refine wpAny_bind (listItems_at ho2 hd ?_)
  refine wpAny_bind (listItems_at (xs := #[]) (n := 0) new rfl ?_)
  rw [if_neg (by simp)]
  refine wpAny_bind (listUpdate_at (xs := #[]) (n := 0) new rfl ?_ (Nat.zero_le _) ?_)
  · refine wpAny_pure ?_
    show wpAny (model prog w) A (load s.heap.objs.size >>= _) _ _ _
    refine wpAny_bind (wpAny_load (get?_update_seq new _) ?_)
    refine wpAny_pure ?_
    show Q (#[] ++ vs.toArray).toList _
    have e : (#[] ++ vs.toArray : Array Value).toList = vs := by simp
    rw [e]
    refine h _ ?_ ?_
    · intro b o' hb
      exact (Heap.get?_update_ne _ _ _ _ (Nat.ne_of_lt (Heap.lt_size hb))).trans (Heap.get?_push_of_some _ hb)
    · rw [Heap.size_update, size_push']
      exact Nat.le_succ _
  · show (#[] ++ vs.toArray : Array Value).size ≤ sizeLine + 1
    simp only [Array.size_append, List.size_toArray, List.length_nil]
    omega
theorem sorted_pairsT {l : Addr} {vs : List Value} {k : Value → Int × Int} {Q : Value → Shared → Prop} (ht : s.heap.IsTuple l vs.toArray)
    (hz : vs.length ≤ sizeLine) (hp : ∀ v ∈ vs, Srt.IsPair s.heap v (k v).1 (k v).2)
    (h : ∀ (h' : Heap) (d : Addr) (out : List Value), SrtO.Srtd (fun v u => SrtO.lexB (k v) (k u)) out → SrtO.Stb (fun v u => SrtO.lexB (k v) (k u)) out vs →
      (∀ b o, s.heap.get? b = some o → h'.get? b = some o) → s.heap.objs.size ≤ d → (∃ n, h'.get? d = some (seqObj "list" out.toArray n)) → Q (.ref d) { s with heap := h' }) :
    wpAny (model prog w) A (call (.builtin "sorted") [.ref l]) Q E s := by
  refine Calls.call_function_entry kind_sorted plain_sorted entry_sorted (args_sorted1 _) ?_
  unfold Builtin.«sorted»
  refine wpAny_bind (m := checkCount "sorted" 1 1 _) (wpAny_pure ?_)
  refine wpAny_bind (collect_tup ht ?_ hz)
  intro h1 k1 sz
  refine wpAny_bind (wpAny_newList ?_ hz)
  have at1 : (h1.push (seqObj "list" vs.toArray 0)).get? h1.objs.size = some (seqObj "list" vs.toArray 0) := Heap.get?_push_size _ rfl
  have old1 : ∀ b o, s.heap.get? b = some o → (h1.push (seqObj "list" vs.toArray 0)).get? b = some o := fun b o e => Heap.get?_push_of_some _ (k1 b o e)
  refine wpAny_bind (wpAny_holding (wpAny_call_entry slot_list_sort ⟨_, at1, rfl⟩ entry_list_sort
    (SrtO.list_sort_ord (SrtO.swo_lex k) at1 hz (fun h2 => ?_) fun out hs hb => ⟨_, rfl, ?_⟩) (args_list_sort _)))
  · refine SrtO.pairs_sortableO (by omega) (fun v hm => (hp v hm).keeps fun b o e _ => old1 b o e) ?_
    intro o e
    have e' : some o = some (seqObj "list" vs.toArray 0) := e.symm.trans at1
    cases e'
    intro c
    exact absurd (Value.type.inj c) (by decide)
  · refine wpAny_pure ⟨_, rfl, h _ _ out hs hb ?_ sz (sortedHeap_at at1)⟩
    intro b o e
    have hlt : b < h1.objs.size := Heap.lt_size (k1 b o e)
    rw [sortedHeap_old (Nat.ne_of_lt hlt) (by rw [size_push']; exact Nat.lt_succ_of_lt hlt)]
    exact old1 b o e
end
end RS
namespace RS
open PySem PySem.Spec PyProof.Rows L2
end RS
set_option Elab.async false
set_option linter.all false
set_option maxRecDepth 100000
namespace RS
open PySem PySem.Spec PyProof.Rows L2
/-! ### set(xs) of a list of ints -/
end RS
namespace RS
open PySem PySem.Spec PyProof.Rows L2
end RS
set_option Elab.async false
set_option linter.all false
set_option maxRecDepth 100000
namespace RS
open PySem PySem.Spec PyProof.Rows L2
theorem dInts_can : ∀ ns : List Int, PyData.canLayAll0 (dInts ns) = true
  | [] => rfl
  | n :: ns => by
    show (PyData.canLay0 (.int n) && PyData.canLayAll0 (dInts ns)) = true
    rw [dInts_can ns]
    rfl
theorem swCount_filter (sw : List (Int × Int)) (lo hi : Int) : (sw.filter fun s => decide (s.1 ≤ lo) && decide (hi ≤ s.2)).length = swCount sw lo hi := by
  induction sw with
  | nil => rfl
  | cons s r ih =>
    unfold swCount at ih ⊢
    rw [List.map_cons, List.sum_cons, ← ih, List.filter_cons]
    unfold inSw
    by_cases h : s.1 ≤ lo ∧ hi ≤ s.2
    · rw [if_pos h, if_pos (by rw [decide_eq_true h.1, decide_eq_true h.2]; rfl), List.length_cons]
      omega
    · rw [if_neg h, if_neg (by
        intro z
        obtain ⟨z1, z2⟩ := Bool.and_eq_true_iff.mp z
        exact h ⟨of_decide_eq_true z1, of_decide_eq_true z2⟩)]
      omega
end RS
set_option Elab.async false
set_option linter.all false
set_option maxRecDepth 100000
namespace RS
open PySem PySem.Spec PyProof.Rows L2
/-! ### min and max of a tuple of ints -/
section
variable {P : Program} {w : World} {A : Around} {E : Value → Shared → Prop} {s : Shared} {l : Addr} {xs : Array (Int × Tok)}
theorem tupIter_open {Q : Value → Shared → Prop} (hl : s.heap.IsTuple l (intItems xs))
    (h : ∀ z : Shared, z = { s with heap := s.heap.push { cls := .type "tuple_iterator", data := .fields #[.ref l, .int 0 0] } } →
      (z.heap.IsTupleIter s.heap.objs.size l 0 ∧ z.heap.IsTuple l (intItems xs)) → (∀ b ∈ [s.heap.objs.size, l], b < z.heap.objs.size) → l ≠ s.heap.objs.size → Q (.ref s.heap.objs.size) z) :
    wpAny (model P w) A (pyIter (.ref l)) Q E s := by
  have hlt : l < s.heap.objs.size := by
    obtain ⟨_, e, _⟩ := hl
    exact Heap.lt_size e
  have hl2 : (s.heap.push { cls := .type "tuple_iterator", data := .fields #[.ref l, .int 0 0] }).IsTuple l (intItems xs) := by
    obtain ⟨o, e, r⟩ := hl
    exact ⟨o, Heap.get?_push_of_some _ e, r⟩
  refine wpAny_pyIter_tuple hl (h _ rfl ⟨⟨_, Heap.get?_push_size _ rfl, rfl, rfl⟩, hl2⟩ ?_ (Nat.ne_of_lt hlt))
  intro b hb
  show b < (s.heap.push _).objs.size
  rw [Heap.size_push]
  rcases List.mem_cons.mp hb with rfl | hb
  · exact Nat.lt_succ_self _
  · rw [List.mem_singleton.mp hb]
    exact Nat.lt_succ_of_lt hlt
theorem tup_kept {h' : Heap} (hk : ∀ b o, b ∉ [s.heap.objs.size] → (s.heap.push { cls := .type "tuple_iterator", data := .fields #[.ref l, .int 0 0] }).get? b = some o → h'.get? b = some o) :
    ∀ b o, s.heap.get? b = some o → h'.get? b = some o := by
  intro b o e
  refine hk b o (fun hm => ?_) (Heap.get?_push_of_some _ e)
  have e1 := List.mem_singleton.mp hm
  exact absurd (e1 ▸ Heap.lt_size e) (Nat.lt_irrefl _)
theorem max_tupI {Q : Value → Shared → Prop} (hh : A.handled = none) (hl : s.heap.IsTuple l (intItems xs)) (hne : 0 < xs.size)
    (h : ∀ v h' tk, (intItems xs)[argBest (fun i j => decide (numAt xs i > numAt xs j)) (xs.size - 1)]? = some v → (∀ b o, s.heap.get? b = some o → h'.get? b = some o) → Q v { s with heap := h', toks := tk }) :
    wpAny (model P w) A (call (.builtin "max") [.ref l]) Q E s := by
  refine call_max_walk (tupIter_open hl fun z e st hfp hlI => ?_)
  subst e
  refine ⟨_, _, _, _, _, _, _, rfl, Walks.tuple (A := A.in1) hh _ l hlI (intItems xs), st, hfp, by simpa [intItems] using hne, CmpOf.ints_gt (numAt xs) (fun _ _ => intItems_at), fun v h' tk hP hk => ?_⟩
  exact h v h' tk (by simpa [intItems] using hP) (tup_kept hk)
theorem min_tupI {Q : Value → Shared → Prop} (hh : A.handled = none) (hl : s.heap.IsTuple l (intItems xs)) (hne : 0 < xs.size)
    (h : ∀ v h' tk, (intItems xs)[argBest (fun i j => decide (numAt xs i < numAt xs j)) (xs.size - 1)]? = some v → (∀ b o, s.heap.get? b = some o → h'.get? b = some o) → Q v { s with heap := h', toks := tk }) :
    wpAny (model P w) A (call (.builtin "min") [.ref l]) Q E s := by
  refine call_min_walk (tupIter_open hl fun z e st hfp hlI => ?_)
  subst e
  refine ⟨_, _, _, _, _, _, _, rfl, Walks.tuple (A := A.in1) hh _ l hlI (intItems xs), st, hfp, by simpa [intItems] using hne, CmpOf.ints_lt (numAt xs) (fun _ _ => intItems_at), fun v h' tk hP hk => ?_⟩
  exact h v h' tk (by simpa [intItems] using hP) (tup_kept hk)
end
section
variable {P : Program} {w : World} {A : Around} {s : Shared} {l : Addr} {its : List Value} {ns : List Int} {Q E : Value → Shared → Prop}
theorem maxT_raw (hh : A.handled = none) (hl : s.heap.IsTuple l its.toArray) (hi : IntsAre its ns) (hne : 0 < ns.length)
    (h : ∀ h' tk m t', (∀ b o, s.heap.get? b = some o → h'.get? b = some o) → m ∈ ns → (∀ a, a ∈ ns → a ≤ m) → Q (.int m t') { s with heap := h', toks := tk }) : wpAny (model P w) A (call (.builtin "max") [.ref l]) Q E s := by
  obtain ⟨xs, ee⟩ := hi.allInts.items
  have hz : numsOf (intItems xs).toList = ns := by
    rw [← ee]
    exact hi.numsOf
  rw [nums_intItems] at hz
  subst hz
  rw [ee] at hl
  have hpos : 0 < xs.size := by simpa using hne
  refine max_tupI hh hl hpos fun v h' tk hv hk => ?_
  obtain ⟨tt, rfl⟩ := intItems_at hv
  obtain ⟨_, best⟩ := argBest_gt (numAt xs) (xs.size - 1)
  refine h h' tk _ tt hk ?_ fun x hx => ?_
  · rw [numAt_eq]
    exact PySem.getD_mem (by rw [List.length_map, Array.length_toList]; omega)
  · obtain ⟨i, hi2, rfl⟩ := mem_getD hx
    rw [List.length_map, Array.length_toList] at hi2
    rw [← numAt_eq]
    exact best i (by omega)
theorem minT_raw (hh : A.handled = none) (hl : s.heap.IsTuple l its.toArray) (hi : IntsAre its ns) (hne : 0 < ns.length)
    (h : ∀ h' tk m t', (∀ b o, s.heap.get? b = some o → h'.get? b = some o) → m ∈ ns → (∀ a, a ∈ ns → m ≤ a) → Q (.int m t') { s with heap := h', toks := tk }) : wpAny (model P w) A (call (.builtin "min") [.ref l]) Q E s := by
  obtain ⟨xs, ee⟩ := hi.allInts.items
  have hz : numsOf (intItems xs).toList = ns := by
    rw [← ee]
    exact hi.numsOf
  rw [nums_intItems] at hz
  subst hz
  rw [ee] at hl
  have hpos : 0 < xs.size := by simpa using hne
  refine min_tupI hh hl hpos fun v h' tk hv hk => ?_
  obtain ⟨tt, rfl⟩ := intItems_at hv
  obtain ⟨_, best⟩ := argBest_lt (numAt xs) (xs.size - 1)
  refine h h' tk _ tt hk ?_ fun x hx => ?_
  · rw [numAt_eq]
    exact PySem.getD_mem (by rw [List.length_map, Array.length_toList]; omega)
  · obtain ⟨i, hi2, rfl⟩ := mem_getD hx
    rw [List.length_map, Array.length_toList] at hi2
    rw [← numAt_eq]
    exact best i (by omega)
end
section
variable {X : Cx}
def rMaxT (K : PySem.W.Frag) : List V → Hp → VK → Prop := fun vs H Q => ∃ (t : Addr) (ns : List Int), vs = [.ref t] ∧ SqT K H t (ns.map V.int) ∧ 0 < ns.length ∧ ∀ m, m ∈ ns → (∀ y, y ∈ ns → y ≤ m) → Q (.int m) H
def rMinT (K : PySem.W.Frag) : List V → Hp → VK → Prop := fun vs H Q => ∃ (t : Addr) (ns : List Int), vs = [.ref t] ∧ SqT K H t (ns.map V.int) ∧ 0 < ns.length ∧ ∀ m, m ∈ ns → (∀ y, y ∈ ns → m ≤ y) → Q (.int m) H
theorem cr_maxT (hc : X.calm = true) : CallR X (.builtin "max") (rMaxT X.K) := by
  intro pins s σ H vs us Q I r h
  obtain ⟨t, ns, rfl, hq, hne, q⟩ := h
  obtain ⟨its, rv, tp, _⟩ := I.tuple hq
  rw [Vals.ref1 r]
  exact maxT_raw (I.ok.hd hc) (show s.heap.IsTuple t its.toArray from tp) rv.ints hne fun h' tk m t' hk h1 h2 => ⟨.int _, H, I.kept hk, ⟨_, rfl⟩, q m h1 h2⟩
theorem cr_minT (hc : X.calm = true) : CallR X (.builtin "min") (rMinT X.K) := by
  intro pins s σ H vs us Q I r h
  obtain ⟨t, ns, rfl, hq, hne, q⟩ := h
  obtain ⟨its, rv, tp, _⟩ := I.tuple hq
  rw [Vals.ref1 r]
  exact minT_raw (I.ok.hd hc) (show s.heap.IsTuple t its.toArray from tp) rv.ints hne fun h' tk m t' hk h1 h2 => ⟨.int _, H, I.kept hk, ⟨_, rfl⟩, q m h1 h2⟩
end
end RS
set_option Elab.async false
set_option linter.all false
set_option maxRecDepth 100000
namespace RS
open PySem PySem.Spec PyProof.Rows L2
theorem units65 {k : Nat} {A : Around} (r : Room k A) : A.units + 65 < cLine := by
  have := r.un
  omega
theorem shaped_li (ns : List Int) : SeqAt.shaped (.list (dInts ns)) = true := by
  unfold SeqAt.shaped
  refine Bool.and_eq_true_iff.mpr ⟨?_, decide_eq_true ?_⟩
  · simp only [PyData.canLay0]
    exact dInts_can ns
  · simp only [PyData.depth]
    rw [dInts_depth]
    omega
theorem shaped_ti (ns : List Int) : SeqAt.shaped (.tuple (dInts ns)) = true := by
  unfold SeqAt.shaped
  refine Bool.and_eq_true_iff.mpr ⟨?_, decide_eq_true ?_⟩
  · simp only [PyData.canLay0]
    exact dInts_can ns
  · simp only [PyData.depth]
    rw [dInts_depth]
    omega
theorem eqvAll_ints : ∀ (as bs : List Int), PyData.eqvAll (dInts as) (dInts bs) = decide (as = bs)
  | [], [] => rfl
  | [], _ :: _ => rfl
  | _ :: _, [] => rfl
  | a :: as, b :: bs => by
    show (PyData.eqv (.int a) (.int b) && PyData.eqvAll (dInts as) (dInts bs)) = _
    rw [eqvAll_ints as bs]
    simp only [PyData.eqv]
    by_cases h : a = b
    · by_cases g : as = bs
      · rw [decide_eq_true g, decide_eq_true (by rw [h, g]), h]
        simp
      · rw [decide_eq_false g, Bool.and_false, decide_eq_false (fun z => g (List.cons.inj z).2)]
    · rw [decide_eq_false (fun z => h (List.cons.inj z).1), show (a == b) = false from beq_eq_false_iff_ne.mpr h, Bool.false_and]
theorem eqv_ti (as bs : List Int) : PyData.eqv (.tuple (dInts as)) (.tuple (dInts bs)) = decide (as = bs) := by
  simp only [PyData.eqv]
  exact eqvAll_ints as bs
theorem sorted_ints_one : ∀ {l m : List Int}, l.Perm m → (l.Pairwise fun a b => a ≤ b) → (m.Pairwise fun a b => a ≤ b) → l = m
  | [], m, p, _, _ => (List.nil_perm.mp p).symm
  | a :: l, [], p, _, _ => absurd (List.perm_nil.mp p) (by simp)
  | a :: l, b :: m, p, hl, hm => by
    have e : a = b := by
      rw [List.pairwise_cons] at hl hm
      have ha : a ∈ b :: m := p.mem_iff.mp (by simp)
      have hb : b ∈ a :: l := p.mem_iff.mpr (by simp)
      rcases List.mem_cons.mp ha with h | h
      · exact h
      · rcases List.mem_cons.mp hb with h' | h'
        · exact h'.symm
        · have := hl.1 b h'
          have := hm.1 a h
          omega
    subst e
    rw [sorted_ints_one ((List.perm_cons a).mp p) (List.pairwise_cons.mp hl).2 (List.pairwise_cons.mp hm).2]
end RS
set_option Elab.async false
set_option linter.all false
set_option maxRecDepth 100000
namespace RS
open PySem PySem.Spec PyProof.Rows L2
/-! ### t[::-1] -/
end RS
set_option Elab.async false
set_option linter.all false
set_option maxRecDepth 100000
/-! The data layer: operators, built-ins, what is walked. -/
namespace RS
open PySem PySem.Spec PyProof.Rows L2
/-! ### data as the library has it -/
mutual
def D.py : D → PyData
  | .non => .none
  | .bl b => .bool b
  | .int i => .int i
  | .str x => .str x
  | .tup ds => .tuple (D.pys ds)
  | .lst ds => .list (D.pys ds)
  | .obj _ => .none
  | .dct kvs => .dict (kvs.map fun p => (.str p.1, .int p.2))
  | .tpf _ => .none
def D.pys : List D → List PyData
  | [] => []
  | d :: ds => d.py :: D.pys ds
end
mutual
def D.ok : D → Bool
  | .non => true
  | .bl _ => true
  | .int _ => true
  | .str _ => true
  | .tup ds => D.oks ds
  | .lst ds => D.oks ds
  | .obj _ => false
  | .dct _ => false
  | .tpf _ => false
def D.oks : List D → Bool
  | [] => true
  | d :: ds => d.ok && D.oks ds
end
mutual
theorem Rv.dp {K : PySem.W.Frag} {W : Wd} : ∀ (d : D) {v : V}, Rv K W v d → d.ok = true → Dp K W.H v d.py
  | .non, _, h, _ => by cases h; exact .non
  | .bl b, _, h, _ => by cases h; exact .bl b
  | .int i, _, h, _ => by cases h; exact .int i
  | .str x, _, h, _ => by cases h; exact .str x
  | .tup ds, _, h, o => by
    cases h with
    | tup a b => simp only [D.py]; exact .tup a.sq (Rvs.dps ds b (by simpa [D.ok] using o))
  | .lst ds, _, h, o => by
    cases h with
    | lst a b => simp only [D.py]; exact .lst a.sq (Rvs.dps ds b (by simpa [D.ok] using o))
  | .obj v, _, h, o => by simp [D.ok] at o
  | .dct v, _, h, o => by simp [D.ok] at o
  | .tpf v, _, h, o => by simp [D.ok] at o
theorem Rvs.dps {K : PySem.W.Frag} {W : Wd} : ∀ (ds : List D) {vs : List V}, Rvs K W vs ds → D.oks ds = true → DpAll K W.H vs (D.pys ds)
  | [], _, h, _ => by cases h; exact .nil
  | d :: ds, _, h, o => by
    simp only [D.oks, Bool.and_eq_true] at o
    cases h with
    | cons a b => exact .cons (Rv.dp d a o.1) (Rvs.dps ds b o.2)
end
theorem pys_map (ds : List D) : D.pys ds = ds.map D.py := by
  induction ds with
  | nil => rfl
  | cons d ds ih => simp only [D.pys, ih, List.map_cons]
theorem pys_ints (ns : List Int) : D.pys (ns.map D.int) = dInts ns := by
  rw [pys_map, List.map_map]
  rfl
theorem oks_ints : ∀ ns : List Int, D.oks (ns.map D.int) = true
  | [] => rfl
  | n :: ns => by simp only [List.map_cons, D.oks, D.ok, Bool.true_and]; exact oks_ints ns
section
variable {X : Cx}
/-- what a rule gives that makes one new tuple, list -/
theorem Cont.newT {K : PySem.W.Frag} {W : Wd} {P : DK} {Q : VK} (k : Cont K W P Q) (ok : Ok K W) {vs : List V} {ds : List D} (r : Rvs K W vs ds) (p : P (.tup ds) W.M) : ∀ a, W.H a = none → Q (.ref a) (upd W.H a (.tup vs)) :=
  fun a na => k (.tup ds) (W.add a (.tup vs)) (.ref a) p (Fr.add na) (ok.add na) (Rv.newT ok na r)
theorem Cont.newL {K : PySem.W.Frag} {W : Wd} {P : DK} {Q : VK} (k : Cont K W P Q) (ok : Ok K W) {vs : List V} {ds : List D} (r : Rvs K W vs ds) (p : P (.lst ds) W.M) : ∀ a, W.H a = none → Q (.ref a) (upd W.H a (.lst vs)) :=
  fun a na => k (.lst ds) (W.add a (.lst vs)) (.ref a) p (Fr.add na) (ok.add na) (Rv.newL ok na r)
theorem Cont.now {K : PySem.W.Frag} {W : Wd} {P : DK} {Q : VK} (k : Cont K W P Q) (ok : Ok K W) {v : V} {d : D} (r : Rv K W v d) (p : P d W.M) : Q v W.H := k d W v p (Fr.refl W) ok r
/-! ### operators -/
def addD : G2
  | .int i, .int j, M, P => P (.int (i + j)) M
  | .tup xs, .tup ys, M, P => xs.length + ys.length ≤ sizeLine ∧ P (.tup (xs ++ ys)) M
  | .lst xs, .lst ys, M, P => xs.length + ys.length ≤ sizeLine ∧ P (.lst (xs ++ ys)) M
  | .str x, .str y, M, P => x.length + y.length ≤ sizeLine ∧ P (.str (x ++ y)) M
  | .obj (.ref a), .lst ys, M, P => ∃ xs, M a = some (.dl xs) ∧ xs.length + ys.length ≤ sizeLine ∧ P (.lst (xs ++ ys)) M
  | _, _, _, _ => False
theorem od_add : OpD X (binaryOp .Add) addD := by
  intro pins s σ H x y v u Q I rx ry h
  obtain ⟨W, dx, dy, P, rfl, ok, r1, r2, g, k⟩ := h
  cases r1 with
  | int i =>
    cases r2 with
    | int j => exact op_add pins s σ W.H _ _ v u Q I rx ry ⟨i, j, rfl, rfl, k.now ok (.int _) g⟩
    | _ => exact (show False from g).elim
  | str a =>
    cases r2 with
    | str b => exact op_add_str pins s σ W.H _ _ v u Q I rx ry ⟨a, b, rfl, rfl, g.1, k.now ok (.str _) g.2⟩
    | _ => exact (show False from g).elim
  | tup s1 t1 =>
    rename_i a1 vs1 ds1
    cases r2 with
    | tup s2 t2 =>
      rename_i a2 vs2 ds2
      refine op_catA pins s σ W.H _ _ v u Q I rx ry ⟨a1, a2, vs1, vs2, rfl, rfl, s1.sq, s2.sq, ?_, fun e => ?_, fun e e2 => ?_, fun e e2 => ?_⟩
      · rw [t1.length, t2.length]
        exact g.1
      · subst e
        cases t1
        exact k.now ok (.tup s2 t2) g.2
      · subst e2
        cases t2
        refine k.now ok (.tup s1 t1) ?_
        have := g.2
        rwa [List.append_nil] at this
      · exact k.newT ok (t1.append t2) g.2
    | _ => exact (show False from g).elim
  | lst s1 t1 =>
    rename_i a1 vs1 ds1
    cases r2 with
    | lst s2 t2 =>
      rename_i a2 vs2 ds2
      refine op_cat pins s σ W.H _ _ v u Q I rx ry ⟨a1, a2, vs1, vs2, rfl, rfl, s1.1, s2.1, ?_, k.newL ok (t1.append t2) g.2⟩
      rw [t1.length, t2.length]
      exact g.1
    | _ => exact (show False from g).elim
  | obj x =>
    cases x with
    | ref a1 =>
      cases r2 with
      | lst s2 t2 =>
        obtain ⟨xs, m, hl, g⟩ := g
        obtain ⟨_, vs1, eH, t1⟩ := ok.m a1 _ m
        refine op_cat pins s σ W.H _ _ v u Q I rx ry ⟨a1, _, vs1, _, rfl, rfl, eH, s2.1, ?_, k.newL ok (t1.append t2) g⟩
        rw [t1.length, t2.length]
        exact hl
      | _ => exact (show False from g).elim
    | _ => cases r2 <;> exact (show False from g).elim
  | _ => cases r2 <;> exact (show False from g).elim
def opI2 (C : Int → Int → Prop) (f : Int → Int → D) : G2
  | .int i, .int j, M, P => C i j ∧ P (f i j) M
  | _, _, _, _ => False
theorem od_int {f : Value → Value → Sem Value} {C : Int → Int → Prop} {gv : Int → Int → V} {gd : Int → Int → D} (h : OpR X f (rI C gv)) (hr : ∀ W i j, Rv X.K W (gv i j) (gd i j)) : OpD X f (opI2 C gd) := by
  intro pins s σ H x y v u Q I rx ry q
  obtain ⟨W, dx, dy, P, rfl, ok, r1, r2, g, k⟩ := q
  cases r1 with
  | int i =>
    cases r2 with
    | int j => exact h pins s σ W.H _ _ v u Q I rx ry ⟨i, j, rfl, rfl, g.1, k.now ok (hr W i j) g.2⟩
    | _ => exact (show False from g).elim
  | _ => exact (show False from g).elim
def opI20 (f : Int → Int → D) : G2
  | .int i, .int j, M, P => P (f i j) M
  | _, _, _, _ => False
theorem od_int0 {f : Value → Value → Sem Value} {gv : Int → Int → V} {gd : Int → Int → D} (h : OpR X f (rI0 gv)) (hr : ∀ W i j, Rv X.K W (gv i j) (gd i j)) : OpD X f (opI20 gd) := by
  intro pins s σ H x y v u Q I rx ry q
  obtain ⟨W, dx, dy, P, rfl, ok, r1, r2, g, k⟩ := q
  cases r1 with
  | int i =>
    cases r2 with
    | int j => exact h pins s σ W.H _ _ v u Q I rx ry ⟨i, j, rfl, rfl, k.now ok (hr W i j) g⟩
    | _ => exact (show False from g).elim
  | _ => exact (show False from g).elim
abbrev subD : G2 := opI20 fun i j => .int (i - j)
abbrev fdivD : G2 := opI2 CDivW fun i j => .int (i / j)
abbrev modD : G2 := opI2 (fun _ j => 0 < j) fun i j => .int (i % j)
abbrev powD : G2 := opI2 CPow fun i j => .int (i ^ j.toNat)
abbrev ltD : G2 := opI20 fun i j => .bl (decide (i < j))
abbrev leD : G2 := opI20 fun i j => .bl (decide (i ≤ j))
abbrev gtD : G2 := opI20 fun i j => .bl (decide (j < i))
abbrev geD : G2 := opI20 fun i j => .bl (decide (j ≤ i))
theorem od_sub : OpD X (binaryOp .Sub) subD := od_int0 op_sub fun _ _ _ => .int _
theorem od_fdiv : OpD X (binaryOp .FloorDiv) fdivD := od_int op_fdivW fun _ _ _ => .int _
theorem od_mod : OpD X (binaryOp .Mod) modD := od_int op_mod fun _ _ _ => .int _
theorem od_pow : OpD X (binaryOp .Pow) powD := od_int op_pow fun _ _ _ => .int _
theorem od_lt : OpD X (compareOp .Lt) ltD := od_int0 op_lt fun _ _ _ => .bl _
theorem od_le : OpD X (compareOp .LtE) leD := od_int0 op_le fun _ _ _ => .bl _
theorem od_gt : OpD X (compareOp .Gt) gtD := od_int0 op_gt fun _ _ _ => .bl _
theorem od_ge : OpD X (compareOp .GtE) geD := od_int0 op_ge fun _ _ _ => .bl _
def mulD : G2
  | .int i, .int j, M, P => CMulW i j ∧ P (.int (i * j)) M
  | .tup xs, .int k, M, P => 0 ≤ k ∧ k ≤ 1000 ∧ xs.length ≤ 1000 ∧ P (.tup (List.replicate k.toNat xs).flatten) M
  | .lst xs, .int k, M, P => 0 ≤ k ∧ k ≤ 1000 ∧ xs.length ≤ 1000 ∧ P (.lst (List.replicate k.toNat xs).flatten) M
  | _, _, _, _ => False
theorem od_mul : OpD X (binaryOp .Mult) mulD := by
  intro pins s σ H x y v u Q I rx ry h
  obtain ⟨W, dx, dy, P, rfl, ok, r1, r2, g, k⟩ := h
  cases r1 with
  | int i =>
    cases r2 with
    | int j => exact op_mulW pins s σ W.H _ _ v u Q I rx ry ⟨i, j, rfl, rfl, g.1, k.now ok (.int _) g.2⟩
    | _ => exact (show False from g).elim
  | tup s1 t1 =>
    rename_i a1 vs1 ds1
    cases r2 with
    | int j =>
      obtain ⟨h0, h1, h2, g⟩ := g
      refine op_repX pins s σ W.H _ _ v u Q I rx ry ⟨a1, j, vs1, rfl, rfl, s1.sq, h0, h1, by rw [t1.length]; exact h2, fun e => ?_, k.newT ok (t1.rep _) g⟩
      refine k.now ok (.tup s1 ?_) g
      have := t1.rep j.toNat
      rwa [e] at this
    | _ => exact (show False from g).elim
  | lst s1 t1 =>
    rename_i a1 vs1 ds1
    cases r2 with
    | int j =>
      obtain ⟨h0, h1, h2, g⟩ := g
      refine op_rep pins s σ W.H _ _ v u Q I rx ry ⟨a1, j, vs1, rfl, rfl, s1.1, by omega, by omega, ?_, k.newL ok (t1.rep _) g⟩
      rw [t1.length]
      have hs : sizeLine = 16777216 := sizeLine_eq
      have : ds1.length * j.toNat ≤ 1000 * 1000 := Nat.mul_le_mul h2 (by omega)
      omega
    | _ => exact (show False from g).elim
  | _ => exact (show False from g).elim
def negD : G1
  | .int i, M, P => P (.int (-i)) M
  | _, _, _ => False
theorem ud_neg : UnD X (unaryOp .USub) negD := by
  intro pins s σ H x v Q I rx h
  obtain ⟨W, dx, P, rfl, ok, r1, g, k⟩ := h
  cases r1 with
  | int i => exact un_neg pins s σ W.H _ v Q I rx ⟨i, rfl, k.now ok (.int _) g⟩
  | _ => exact (show False from g).elim
/-- data that may be compared -/
def D.fit (d : D) : Prop := d.ok = true ∧ SeqAt.shaped d.py = true
def eqD : G2
  | .int i, .int j, M, P => P (.bl (decide (i = j))) M
  | .str x, .str y, M, P => P (.bl (decide (x = y))) M
  | d, e, M, P => d.fit ∧ e.fit ∧ P (.bl (PyData.eqv d.py e.py)) M
def neD : G2
  | .int i, .int j, M, P => P (.bl (!decide (i = j))) M
  | .str x, .str y, M, P => P (.bl (!decide (x = y))) M
  | d, e, M, P => d.fit ∧ e.fit ∧ P (.bl (!PyData.eqv d.py e.py)) M
theorem dec_vint {i j : Int} : decide (V.int i = V.int j) = decide (i = j) := by
  by_cases h : i = j
  · subst h
    simp
  · rw [decide_eq_false h, decide_eq_false fun e => h (V.int.inj e)]
theorem dec_vstr {i j : Str} : decide (V.str i = V.str j) = decide (i = j) := by
  by_cases h : i = j
  · subst h
    simp
  · rw [decide_eq_false h, decide_eq_false fun e => h (V.str.inj e)]
theorem od_eq (hu : X.A.units + 64 < cLine) : OpD X (compareOp .Eq) eqD := by
  intro pins s σ H x y v u Q I rx ry h
  obtain ⟨W, dx, dy, P, rfl, ok, r1, r2, g, k⟩ := h
  unfold eqD at g
  split at g
  · cases r1
    cases r2
    exact op_eq pins s σ W.H _ _ v u Q I rx ry ⟨rfl, by rw [dec_vint]; exact k.now ok (.bl _) g⟩
  · cases r1
    cases r2
    exact op_eq pins s σ W.H _ _ v u Q I rx ry ⟨rfl, by rw [dec_vstr]; exact k.now ok (.bl _) g⟩
  · exact op_eqD hu pins s σ W.H _ _ v u Q I rx ry ⟨_, _, Rv.dp _ r1 g.1.1, Rv.dp _ r2 g.2.1.1, g.1.2, g.2.1.2, k.now ok (.bl _) g.2.2⟩
theorem od_ne (hu : X.A.units + 64 < cLine) : OpD X (compareOp .NotEq) neD := by
  intro pins s σ H x y v u Q I rx ry h
  obtain ⟨W, dx, dy, P, rfl, ok, r1, r2, g, k⟩ := h
  unfold neD at g
  split at g
  · cases r1
    cases r2
    exact op_ne pins s σ W.H _ _ v u Q I rx ry ⟨rfl, by rw [dec_vint]; exact k.now ok (.bl _) g⟩
  · cases r1
    cases r2
    exact op_ne pins s σ W.H _ _ v u Q I rx ry ⟨rfl, by rw [dec_vstr]; exact k.now ok (.bl _) g⟩
  · exact op_neD hu pins s σ W.H _ _ v u Q I rx ry ⟨_, _, Rv.dp _ r1 g.1.1, Rv.dp _ r2 g.2.1.1, g.1.2, g.2.1.2, k.now ok (.bl _) g.2.2⟩
theorem any_pys (ds : List D) (p : PyData → Bool) : (D.pys ds).any p = ds.any fun z => p z.py := by
  rw [pys_map, List.any_map]
  rfl
/-- x is None, x is not None -/
def isND : G2
  | .non, .non, M, P => P (.bl true) M
  | .obj _, _, _, _ => False
  | _, .non, M, P => P (.bl false) M
  | _, _, _, _ => False
def isNotND : G2
  | .non, .non, M, P => P (.bl false) M
  | .obj _, _, _, _ => False
  | _, .non, M, P => P (.bl true) M
  | _, _, _, _ => False
theorem od_isN : OpD X (compareOp .Is) isND := by
  intro pins s σ H x y v u Q I rx ry h
  obtain ⟨W, dx, dy, P, rfl, ok, r1, r2, g, k⟩ := h
  cases r2 with
  | non =>
    refine op_isN pins s σ W.H _ _ v u Q I rx ry ⟨rfl, ?_⟩
    cases r1 with
    | obj v => exact (show False from g).elim
    | _ => exact k.now ok (.bl _) g
  | _ => cases r1 <;> exact (show False from g).elim
theorem od_isNotN : OpD X (compareOp .IsNot) isNotND := by
  intro pins s σ H x y v u Q I rx ry h
  obtain ⟨W, dx, dy, P, rfl, ok, r1, r2, g, k⟩ := h
  cases r2 with
  | non =>
    refine op_notN pins s σ W.H _ _ v u Q I rx ry ⟨rfl, ?_⟩
    cases r1 with
    | obj v => exact (show False from g).elim
    | _ => exact k.now ok (.bl _) g
  | _ => cases r1 <;> exact (show False from g).elim
/-- d[i] -/
def ixD : G2
  | .tup ds, .int i, M, P => ∃ d, atI ds i = some d ∧ P d M
  | .lst ds, .int i, M, P => ∃ d, atI ds i = some d ∧ P d M
  | .obj (.ref a), .int i, M, P => ∃ ds d, M a = some (.dl ds) ∧ atI ds i = some d ∧ P d M
  | _, _, _, _ => False
theorem atI_rvs {K : PySem.W.Frag} {W : Wd} {vs : List V} {ds : List D} (r : Rvs K W vs ds) {i : Int} {d : D} (h : atI ds i = some d) : ∃ v, atI vs i = some v ∧ Rv K W v d := by
  unfold atI at h ⊢
  rw [r.length]
  cases e : ixN ds.length i with
  | none => rw [e] at h; cases h
  | some j =>
    rw [e] at h
    exact r.get h
theorem xd_ix : IxD X ixD := by
  intro va sli pins s σ H x y v u Q I rx ry h hsub
  obtain ⟨W, dx, dy, P, rfl, ok, r1, r2, g, k⟩ := h
  cases r1 with
  | tup s1 t1 =>
    cases r2 with
    | int j =>
      obtain ⟨d, e, g⟩ := g
      obtain ⟨v, e', r⟩ := atI_rvs t1 e
      exact ix_tup va sli pins s σ W.H _ _ _ _ Q I rx ry ⟨_, _, _, v, rfl, rfl, s1.sq, e', k.now ok r g⟩ hsub
    | _ => exact (show False from g).elim
  | lst s1 t1 =>
    cases r2 with
    | int j =>
      obtain ⟨d, e, g⟩ := g
      obtain ⟨v, e', r⟩ := atI_rvs t1 e
      exact ix_list va sli pins s σ W.H _ _ _ _ Q I rx ry ⟨_, _, _, v, rfl, rfl, s1.sq, e', k.now ok r g⟩ hsub
    | _ => exact (show False from g).elim
  | obj x =>
    cases x with
    | ref a =>
      cases r2 with
      | int j =>
        obtain ⟨ds, d, m, e, g⟩ := g
        obtain ⟨_, vs, eH, rvs⟩ := ok.m a _ m
        obtain ⟨v, e', r⟩ := atI_rvs rvs e
        exact ix_list va sli pins s σ W.H _ _ _ _ Q I rx ry ⟨_, _, _, v, rfl, rfl, SqL.of eH, e', k.now ok r g⟩ hsub
      | _ => exact (show False from g).elim
    | _ => exact (show False from g).elim
  | _ => exact (show False from g).elim
/-! ### slices -/
abbrev DOW := DG → Mem → (Option Int → Mem → Prop) → Prop
def liftO (K : PySem.W.Frag) (w : DOW) : TO := fun σ H Q => ∃ Γ W P, W.H = H ∧ Cn K Γ W σ ∧ w Γ W.M P ∧ ∀ b W', P b W'.M → Fr W W' → Ok K W' → Q b W'.H
def DO (X : Cx) (e : Option Expr) (w : DOW) : Prop := PO X e (liftO X.K w)
def wNoPart : DOW := fun _ M P => P none M
def wPart (we : DW) : DOW := fun Γ M P => we Γ M fun d M1 => match d with
  | .int i => P (some i) M1
  | _ => False
theorem PO.imp {e : Option Expr} {t t' : TO} (h : PO X e t) (m : ∀ σ H Q, t' σ H Q → t σ H Q) : PO X e t' := ⟨fun pins s σ H Q I q => h.run pins s σ H Q I (m σ H Q q)⟩
theorem do_none : DO X none wNoPart := PO.imp po_none fun σ H Q q => by
  obtain ⟨Γ, W, P, rfl, c, w, k⟩ := q
  exact k none W w (Fr.refl W) c.ok
theorem do_some {e : Expr} {we : DW} (h : DE X e we) : DO X (some e) (wPart we) := PO.imp (po_some h) fun σ H Q q => by
  obtain ⟨Γ, W, P, rfl, c, w, k⟩ := q
  refine ⟨Γ, W, _, rfl, c, w, fun d W1 v w1 f1 k1 r1 => ?_⟩
  cases r1 with
  | int i => exact ⟨i, rfl, k (some i) W1 w1 f1 k1⟩
  | _ => exact (show False from w1).elim
def cutD (xs : List D) (lo hi : Option Int) : List D := (xs.drop (HT.sIx xs.length 0 lo)).take (HT.sIx xs.length xs.length hi - HT.sIx xs.length 0 lo)
def slD (d : D) (lo hi : Option Int) (M : Mem) (P : DK) : Prop := match d with
  | .tup ds => P (.tup (cutD ds lo hi)) M
  | .lst ds => P (.lst (cutD ds lo hi)) M
  | _ => False
def wSl (we : DW) (wl wh : DOW) : DW := fun Γ M P => we Γ M fun d M1 => wl Γ M1 fun l M2 => wh Γ M2 fun h M3 => slD d l h M3 P
theorem cut_rvs {K : PySem.W.Frag} {W : Wd} {vs : List V} {ds : List D} (r : Rvs K W vs ds) (lo hi : Option Int) : Rvs K W (cutV vs lo hi) (cutD ds lo hi) := by
  unfold cutV cutD
  rw [r.length]
  exact (r.drop _).take _
theorem cutD_whole {ds : List D} {lo hi : Option Int} (h1 : HT.sIx ds.length 0 lo = 0) (h2 : HT.sIx ds.length ds.length hi = ds.length) : cutD ds lo hi = ds := by
  unfold cutD
  rw [h1, h2, List.drop_zero, Nat.sub_zero, List.take_length]
theorem de_slice {e : Expr} {lo hi : Option Expr} {p2 pos : Pos} {we : DW} {wl wh : DOW} (he : DE X e we) (hl : DO X lo wl) (hh : DO X hi wh) : DE X (.Subscript e (.Slice lo hi none p2) pos) (wSl we wl wh) :=
  PE.imp (pe_slice (sl_tupA.or sl_list) he hl hh) fun σ H Q q => by
  obtain ⟨Γ, W, P, rfl, c, w, k⟩ := q
  refine ⟨Γ, W, _, rfl, c, w, fun d W1 v w1 f1 k1 r1 => ⟨Γ, W1, _, rfl, c.fr f1 k1, w1, fun l W2 w2 f2 k2 => ⟨Γ, W2, _, rfl, c.fr (f1.trans f2) k2, w2, fun h W3 w3 f3 k3 => ?_⟩⟩⟩
  have r3 := (r1.fr k1 f2).fr k2 f3
  have kk := k.fr ((f1.trans f2).trans f3)
  cases r3 with
  | tup s1 t1 =>
    rename_i a vs ds
    refine .inl ⟨a, vs, rfl, s1.sq, fun hw => ?_, fun hw => kk.newT k3 (cut_rvs t1 l h) w3⟩
    refine kk.now k3 (.tup s1 t1) ?_
    have w3' : P (.tup (cutD ds l h)) W3.M := w3
    rw [t1.length] at hw
    rw [cutD_whole hw.1 hw.2] at w3'
    exact w3'
  | lst s1 t1 => exact .inr ⟨_, _, rfl, s1.sq, kk.newL k3 (cut_rvs t1 l h) w3⟩
  | _ => exact (show False from w3).elim
end
end RS
set_option Elab.async false
set_option linter.all false
set_option maxRecDepth 100000
namespace RS
open PySem PySem.Spec PyProof.Rows L2
/-! ### sorted of pairs, each of which may also be a frozen one -/
def keyR (H : Hp) (x : V) : Int × Int := match x with
  | .ref t => match H t with
    | some (.tup [.int a, .int b]) => (a, b)
    | some (.frz _ (.tup [.int a, .int b])) => (a, b)
    | _ => (0, 0)
  | _ => (0, 0)
def PairsR (H : Hp) (qs : List Addr) (sw : List (Int × Int)) : Prop := qs.length = sw.length ∧ ∀ (i : Nat) (q : Addr) (s : Int × Int), qs[i]? = some q → sw[i]? = some s → Rd H q (.tup [.int s.1, .int s.2])
theorem keyR_of {H : Hp} {t : Addr} {s : Int × Int} (h : Rd H t (.tup [.int s.1, .int s.2])) : keyR H (.ref t) = s := by
  unfold keyR
  rcases h with h | ⟨o, h⟩
  · simp only [h]
  · simp only [h]
theorem PairsR.at {H : Hp} {qs : List Addr} {sw : List (Int × Int)} (p : PairsR H qs sw) {i : Nat} {q : Addr} (hq : qs[i]? = some q) : ∃ s, sw[i]? = some s ∧ Rd H q (.tup [.int s.1, .int s.2]) := by
  have hl : i < sw.length := p.1 ▸ (List.getElem?_eq_some_iff.mp hq).1
  exact ⟨sw[i], List.getElem?_eq_getElem hl, p.2 i q _ hq (List.getElem?_eq_getElem hl)⟩
theorem PairsR.keys {H : Hp} {qs : List Addr} {sw : List (Int × Int)} (p : PairsR H qs sw) : (qs.map V.ref).map (keyR H) = sw := by
  refine List.ext_getElem? fun i => ?_
  rw [List.getElem?_map, List.getElem?_map]
  cases hq : qs[i]? with
  | none =>
    have hn : sw[i]? = none := by
      rw [List.getElem?_eq_none_iff] at hq ⊢
      have := p.1
      omega
    rw [hn]
    rfl
  | some q =>
    obtain ⟨s, hs, r⟩ := p.at hq
    rw [hs]
    exact congrArg some (keyR_of r)
theorem PairsR.mem {H : Hp} {qs : List Addr} {sw : List (Int × Int)} (p : PairsR H qs sw) : ∀ x ∈ qs.map V.ref, ∃ t, x = V.ref t ∧ Rd H t (.tup [.int (keyR H x).1, .int (keyR H x).2]) := by
  intro x hx
  obtain ⟨q, hq, rfl⟩ := List.mem_map.mp hx
  obtain ⟨i, hi⟩ := List.mem_iff_getElem?.mp hq
  obtain ⟨s, hs, r⟩ := p.at hi
  exact ⟨q, rfl, by rw [keyR_of r]; exact r⟩
theorem PairsR.sorted {H : Hp} {qs : List Addr} {sw : List (Int × Int)} (p : PairsR H qs sw) {ys : List V} (h1 : SrtO.Srtd (ltP (keyR H)) ys) (h2 : ys.Perm (qs.map V.ref)) :
    ∃ ps : List Addr, ys = ps.map V.ref ∧ PairsR H ps (sw.mergeSort lexLe) := by
  have hr := fun x (hx : x ∈ ys) => p.mem x (h2.mem_iff.mp hx)
  have ek : ys.map (keyR H) = sw.mergeSort lexLe := by
    refine sorted_one ?_ ?_ (List.pairwise_mergeSort RS.lex_trans RS.lex_total _)
    · have z := h2.map (keyR H)
      rw [p.keys] at z
      exact z.trans (List.mergeSort_perm _ _).symm
    · refine List.pairwise_map.mpr (h1.imp ?_)
      intro x y hxy
      have z := SrtO.lexB_no.mp hxy
      unfold lexLe
      exact decide_eq_true (by omega)
  refine ⟨ys.map addrV, ?_, by rw [List.length_map, ← ek, List.length_map], ?_⟩
  · rw [List.map_map]
    have e : ys.map (V.ref ∘ addrV) = ys.map id := List.map_congr_left fun x hx => by
      obtain ⟨t, rfl, _⟩ := hr x hx
      rfl
    rw [e, List.map_id]
  · intro i q s hq hs
    rw [← ek, List.getElem?_map] at hs
    rw [List.getElem?_map] at hq
    cases hy : ys[i]? with
    | none => rw [hy] at hq; cases hq
    | some y =>
      rw [hy] at hq hs
      obtain ⟨t, rfl, ht⟩ := hr y (List.mem_of_getElem? hy)
      cases hq
      cases hs
      exact ht
/-- a pair of ints in the heap, frozen or not -/
theorem pair_rd {P : Program} {w : World} {H : Hp} {h : Heap} {t : Addr} {i j : Int} (k : HOk P w H h) (r : Rd H t (.tup [.int i, .int j])) : ∃ o t1 t2 n, h.get? t = some o ∧ o.cls = .type "tuple" ∧ o.data = .seq #[.int i t1, .int j t2] n := by
  have z : ∃ its : List Value, Vals [.int i, .int j] its ∧ IsTup h t its.toArray := by
    rcases r with r | ⟨o, r⟩
    · exact (k _ _ r).2
    · have := (k _ _ r).2
      exact this.2
  obtain ⟨its, rv, o, ho, hc, n, hd⟩ := z
  obtain ⟨u1, u2, rfl, ri, rj⟩ := vals2 rv
  obtain ⟨t1, rfl⟩ := ri
  obtain ⟨t2, rfl⟩ := rj
  exact ⟨o, t1, t2, n, ho, hc, hd⟩
def rSortR (K : PySem.W.Frag) (S : Addr → List V → Hp → Prop) : List V → Hp → VK → Prop := fun vs H Q => ∃ (a : Addr) (xs : List V), vs = [V.ref a] ∧ S a xs H ∧ (∀ x ∈ xs, ∃ t, x = V.ref t ∧ Rd H t (.tup [.int (keyR H x).1, .int (keyR H x).2])) ∧
  ∀ ys p, SrtO.Srtd (ltP (keyR H)) ys → SrtO.Stb (ltP (keyR H)) ys xs → H p = none → Q (.ref p) (upd H p (.lst ys))
section
variable {X : Cx}
theorem cr_sortRL : CallR X (.builtin "sorted") (rSortR X.K fun a xs H => SqL X.K H a xs) := by
  intro pins s σ H vs us Q I r h
  obtain ⟨a, xs, rfl, hs, hx, q⟩ := h
  obtain ⟨its, rv, lp, hz⟩ := I.list hs
  obtain ⟨u, rfl, ru⟩ := vals1 r
  cases ru
  obtain ⟨e1, e2⟩ := refs_back rv fun x m => (hx x m).imp fun t z => z.1
  refine SrtO.sorted_pairsO (k := fun u => keyR H (backV u)) lp.isList (by rw [← rv.length]; exact hz) ?_ ?_
  · intro v hv
    obtain ⟨t, rfl⟩ := e2 v hv
    obtain ⟨t', e, ht⟩ := hx (V.ref t) (by rw [e1]; exact List.mem_map.mpr ⟨_, hv, rfl⟩)
    cases e
    obtain ⟨o, t1, t2, n, ho, hc, hd⟩ := pair_rd I.hok ht
    exact ⟨t, o, t1, t2, n, rfl, ho, hc, hd⟩
  · intro h' d out h1 h2 kp hd hn
    obtain ⟨n, hn⟩ := hn
    have h3 : ∀ u ∈ out, ∃ a, u = Value.ref a := fun u hu => e2 u (h2.perm.mem_iff.mp hu)
    have hb : SrtO.Stb (ltP (keyR H)) (out.map backV) xs := by
      rw [e1]
      exact SrtO.Stb.map (ltP_swo (keyR H)) backV h2
    exact ⟨.ref d, upd H d (.lst (out.map backV)), I.laid (t' := s.toks) kp hd ⟨by rw [hb.len]; exact hz, out, n, vals_back h3, hn⟩, rfl, q _ d (SrtO.srtd_map h1) hb (I.hok.fresh hd)⟩
theorem cr_sortRT : CallR X (.builtin "sorted") (rSortR X.K fun a xs H => SqT X.K H a xs) := by
  intro pins s σ H vs us Q I r h
  obtain ⟨a, xs, rfl, hs, hx, q⟩ := h
  obtain ⟨its, rv, tp, hz⟩ := I.tuple hs
  obtain ⟨u, rfl, ru⟩ := vals1 r
  cases ru
  obtain ⟨e1, e2⟩ := refs_back rv fun x m => (hx x m).imp fun t z => z.1
  refine sorted_pairsT (k := fun u => keyR H (backV u)) (show s.heap.IsTuple a its.toArray from tp) (by rw [← rv.length]; exact hz) ?_ ?_
  · intro v hv
    obtain ⟨t, rfl⟩ := e2 v hv
    obtain ⟨t', e, ht⟩ := hx (V.ref t) (by rw [e1]; exact List.mem_map.mpr ⟨_, hv, rfl⟩)
    cases e
    obtain ⟨o, t1, t2, n, ho, hc, hd⟩ := pair_rd I.hok ht
    exact ⟨t, o, t1, t2, n, rfl, ho, hc, hd⟩
  · intro h' d out h1 h2 kp hd hn
    obtain ⟨n, hn⟩ := hn
    have h3 : ∀ u ∈ out, ∃ a, u = Value.ref a := fun u hu => e2 u (h2.perm.mem_iff.mp hu)
    have hb : SrtO.Stb (ltP (keyR H)) (out.map backV) xs := by
      rw [e1]
      exact SrtO.Stb.map (ltP_swo (keyR H)) backV h2
    exact ⟨.ref d, upd H d (.lst (out.map backV)), I.laid (t' := s.toks) kp hd ⟨by rw [hb.len]; exact hz, out, n, vals_back h3, hn⟩, rfl, q _ d (SrtO.srtd_map h1) hb (I.hok.fresh hd)⟩
end
end RS
set_option Elab.async false
set_option linter.all false
set_option maxRecDepth 100000
/-! The data layer: built-ins, what is walked. -/
namespace RS
open PySem PySem.Spec PyProof.Rows L2
section
variable {X : Cx}
theorem rvs1 {K : PySem.W.Frag} {W : Wd} {vs : List V} {d : D} (h : Rvs K W vs [d]) : ∃ v, vs = [v] ∧ Rv K W v d := by
  cases h with
  | cons a b =>
    cases b
    exact ⟨_, rfl, a⟩
theorem rvs2 {K : PySem.W.Frag} {W : Wd} {vs : List V} {d e : D} (h : Rvs K W vs [d, e]) : ∃ v u, vs = [v, u] ∧ Rv K W v d ∧ Rv K W u e := by
  cases h with
  | cons a b =>
    obtain ⟨u, rfl, r⟩ := rvs1 b
    exact ⟨_, u, rfl, a, r⟩
/-! ### built-ins -/
def lenD : GN
  | [.tup ds], M, P => P (.int ds.length) M
  | [.lst ds], M, P => P (.int ds.length) M
  | [.str x], M, P => x.length ≤ sizeLine ∧ P (.int x.length) M
  | [.obj (.ref a)], M, P => ∃ ds, M a = some (.dl ds) ∧ P (.int ds.length) M
  | _, _, _ => False
theorem cd_len : CallD X (.builtin "len") lenD := by
  intro pins s σ H xs us Q I r h
  obtain ⟨W, ds, P, rfl, ok, rs, g, k⟩ := h
  unfold lenD at g
  split at g
  · obtain ⟨v0, rfl, q0⟩ := rvs1 rs
    cases q0 with
    | tup s1 t1 =>
      exact call_len_seq pins s σ W.H _ us Q I r ⟨_, _, rfl, .inr s1.sq, by rw [t1.length]; exact k.now ok (.int _) g⟩
  · obtain ⟨v0, rfl, q0⟩ := rvs1 rs
    cases q0 with
    | lst s1 t1 =>
      exact call_len_seq pins s σ W.H _ us Q I r ⟨_, _, rfl, .inl s1.sq, by rw [t1.length]; exact k.now ok (.int _) g⟩
  · obtain ⟨v0, rfl, q0⟩ := rvs1 rs
    cases q0 with
    | str x =>
      exact call_len_str pins s σ W.H _ us Q I r ⟨_, rfl, g.1, k.now ok (.int _) g.2⟩
  · obtain ⟨v0, rfl, q0⟩ := rvs1 rs
    obtain ⟨ds, m, g⟩ := g
    obtain ⟨_, vs, eH, rvs⟩ := ok.m _ _ m
    cases q0 with
    | obj _ => exact call_len_seq pins s σ W.H _ us Q I r ⟨_, _, rfl, .inl (SqL.of eH), by rw [rvs.length]; exact k.now ok (.int _) g⟩
  · exact g.elim
def absD : GN
  | [.int i], M, P => P (.int (if i < 0 then -i else i)) M
  | _, _, _ => False
theorem cd_abs : CallD X (.builtin "abs") absD := by
  intro pins s σ H xs us Q I r h
  obtain ⟨W, ds, P, rfl, ok, rs, g, k⟩ := h
  unfold absD at g
  split at g
  · obtain ⟨v0, rfl, q0⟩ := rvs1 rs
    cases q0 with
    | int i =>
      exact call_abs pins s σ W.H _ us Q I r ⟨_, rfl, k.now ok (.int _) g⟩
  · exact g.elim
def maxD : GN
  | [.int i, .int j], M, P => P (.int (if j > i then j else i)) M
  | [.lst ds], M, P => ∃ ns : List Int, ds = ns.map .int ∧ 0 < ns.length ∧ ∀ m, m ∈ ns → (∀ y, y ∈ ns → y ≤ m) → P (.int m) M
  | [.tup ds], M, P => ∃ ns : List Int, ds = ns.map .int ∧ 0 < ns.length ∧ ∀ m, m ∈ ns → (∀ y, y ∈ ns → y ≤ m) → P (.int m) M
  | _, _, _ => False
def minD : GN
  | [.int i, .int j], M, P => P (.int (if j < i then j else i)) M
  | [.lst ds], M, P => ∃ ns : List Int, ds = ns.map .int ∧ 0 < ns.length ∧ ∀ m, m ∈ ns → (∀ y, y ∈ ns → m ≤ y) → P (.int m) M
  | [.tup ds], M, P => ∃ ns : List Int, ds = ns.map .int ∧ 0 < ns.length ∧ ∀ m, m ∈ ns → (∀ y, y ∈ ns → m ≤ y) → P (.int m) M
  | _, _, _ => False
theorem cd_max (hc : X.calm = true) : CallD X (.builtin "max") maxD := by
  intro pins s σ H xs us Q I r h
  obtain ⟨W, ds, P, rfl, ok, rs, g, k⟩ := h
  unfold maxD at g
  split at g
  · obtain ⟨v0, v1, rfl, q0, q1⟩ := rvs2 rs
    cases q0 with
    | int i =>
      cases q1 with
      | int j =>
        exact call_max2 hc pins s σ W.H _ us Q I r ⟨_, _, rfl, k.now ok (.int _) g⟩
  · obtain ⟨v0, rfl, q0⟩ := rvs1 rs
    cases q0 with
    | lst s1 t1 =>
      obtain ⟨ns, e, hl, g⟩ := g
      subst e
      have e1 := t1.of_ints
      subst e1
      exact cr_max hc pins s σ W.H _ us Q I r ⟨_, ns, rfl, s1.sq, hl, fun m h1 h2 => k.now ok (.int _) (g m h1 h2)⟩
  · obtain ⟨v0, rfl, q0⟩ := rvs1 rs
    cases q0 with
    | tup s1 t1 =>
      obtain ⟨ns, e, hl, g⟩ := g
      subst e
      have e1 := t1.of_ints
      subst e1
      exact cr_maxT hc pins s σ W.H _ us Q I r ⟨_, ns, rfl, s1.sq, hl, fun m h1 h2 => k.now ok (.int _) (g m h1 h2)⟩
  · exact g.elim
theorem cd_min (hc : X.calm = true) : CallD X (.builtin "min") minD := by
  intro pins s σ H xs us Q I r h
  obtain ⟨W, ds, P, rfl, ok, rs, g, k⟩ := h
  unfold minD at g
  split at g
  · obtain ⟨v0, v1, rfl, q0, q1⟩ := rvs2 rs
    cases q0 with
    | int i =>
      cases q1 with
      | int j =>
        exact call_min2 hc pins s σ W.H _ us Q I r ⟨_, _, rfl, k.now ok (.int _) g⟩
  · obtain ⟨v0, rfl, q0⟩ := rvs1 rs
    cases q0 with
    | lst s1 t1 =>
      obtain ⟨ns, e, hl, g⟩ := g
      subst e
      have e1 := t1.of_ints
      subst e1
      exact cr_min hc pins s σ W.H _ us Q I r ⟨_, ns, rfl, s1.sq, hl, fun m h1 h2 => k.now ok (.int _) (g m h1 h2)⟩
  · obtain ⟨v0, rfl, q0⟩ := rvs1 rs
    cases q0 with
    | tup s1 t1 =>
      obtain ⟨ns, e, hl, g⟩ := g
      subst e
      have e1 := t1.of_ints
      subst e1
      exact cr_minT hc pins s σ W.H _ us Q I r ⟨_, ns, rfl, s1.sq, hl, fun m h1 h2 => k.now ok (.int _) (g m h1 h2)⟩
  · exact g.elim
def tupleD : GN
  | [.lst ds], M, P => P (.tup ds) M
  | [.tup ds], M, P => P (.tup ds) M
  | [.obj (.ref a)], M, P => ∃ ds, M a = some (.dl ds) ∧ P (.tup ds) M
  | _, _, _ => False
def listD : GN
  | [.lst ds], M, P => P (.lst ds) M
  | [.tup ds], M, P => P (.lst ds) M
  | _, _, _ => False
theorem cd_tuple : CallD X (.type "tuple") tupleD := by
  intro pins s σ H xs us Q I r h
  obtain ⟨W, ds, P, rfl, ok, rs, g, k⟩ := h
  unfold tupleD at g
  split at g
  · obtain ⟨v0, rfl, q0⟩ := rvs1 rs
    cases q0 with
    | lst s1 t1 =>
      exact call_tuple_of pins s σ W.H _ us Q I r ⟨_, _, rfl, .inl ⟨s1.sq, k.newT ok t1 g⟩⟩
  · obtain ⟨v0, rfl, q0⟩ := rvs1 rs
    cases q0 with
    | tup s1 t1 =>
      exact call_tuple_of pins s σ W.H _ us Q I r ⟨_, _, rfl, .inr ⟨s1.sq, k.now ok (.tup s1 t1) g⟩⟩
  · obtain ⟨v0, rfl, q0⟩ := rvs1 rs
    obtain ⟨ds, m, g⟩ := g
    obtain ⟨_, vs, eH, rvs⟩ := ok.m _ _ m
    cases q0 with
    | obj _ => exact call_tuple_of pins s σ W.H _ us Q I r ⟨_, _, rfl, .inl ⟨SqL.of eH, k.newT ok rvs g⟩⟩
  · exact g.elim
theorem cd_list : CallD X (.type "list") listD := by
  intro pins s σ H xs us Q I r h
  obtain ⟨W, ds, P, rfl, ok, rs, g, k⟩ := h
  unfold listD at g
  split at g
  · obtain ⟨v0, rfl, q0⟩ := rvs1 rs
    cases q0 with
    | lst s1 t1 =>
      exact call_list_of pins s σ W.H _ us Q I r ⟨_, _, rfl, .inl s1.sq, k.newL ok t1 g⟩
  · obtain ⟨v0, rfl, q0⟩ := rvs1 rs
    cases q0 with
    | tup s1 t1 =>
      exact call_list_of pins s σ W.H _ us Q I r ⟨_, _, rfl, .inr s1.sq, k.newL ok t1 g⟩
  · exact g.elim
/-- sorted of ints -/
def isort (ns : List Int) : List Int := ns.mergeSort fun a b => decide (a ≤ b)
theorem isort_perm (ns : List Int) : (isort ns).Perm ns := List.mergeSort_perm _ _
theorem isort_sorted (ns : List Int) : (isort ns).Pairwise fun a b => a ≤ b :=
  (List.pairwise_mergeSort (le := fun a b : Int => decide (a ≤ b)) (fun a b c h1 h2 => by simp only [decide_eq_true_eq] at *; omega) (fun a b => by simp only [Bool.or_eq_true, decide_eq_true_eq]; omega) ns).imp fun h => by simpa using h
theorem isort_one {ns ms : List Int} (h1 : ms.Perm ns) (h2 : ms.Pairwise fun a b => a ≤ b) : ms = isort ns := sorted_ints_one (h1.trans (isort_perm ns).symm) h2 (isort_sorted ns)
def pairD (p : Int × Int) : D := .tup [.int p.1, .int p.2]
def sortedD : GN
  | [.lst ds], M, P => (∃ ns : List Int, ds = ns.map .int ∧ P (.lst ((isort ns).map .int)) M) ∨ ∃ ps : List (Int × Int), ds = ps.map pairD ∧ P (.lst ((ps.mergeSort lexLe).map pairD)) M
  | [.tup ds], M, P => ∃ ps : List (Int × Int), ds = ps.map pairD ∧ P (.lst ((ps.mergeSort lexLe).map pairD)) M
  | [.obj (.ref a)], M, P => ∃ ps : List (Int × Int), M a = some (.dl (ps.map pairD)) ∧ P (.lst ((ps.mergeSort lexLe).map pairD)) M
  | _, _, _ => False
theorem Rvs.of_pairs {K : PySem.W.Frag} {W : Wd} : ∀ {ps : List (Int × Int)} {vs : List V}, Rvs K W vs (ps.map pairD) → ∃ qs : List Addr, vs = qs.map V.ref ∧ PairsR W.H qs ps ∧ ∀ q ∈ qs, ¬ W.N q
  | [], _, h => by cases h; exact ⟨[], rfl, ⟨rfl, fun i q s h => by simp at h⟩, fun _ h => by simp at h⟩
  | p :: ps, _, h => by
    cases h with
    | cons a b =>
      obtain ⟨qs, e, h1, h2⟩ := Rvs.of_pairs b
      subst e
      cases a with
      | tup s1 t1 =>
        rename_i a vs
        have e1 : vs = [p.1, p.2].map V.int := Rvs.of_ints (ns := [p.1, p.2]) t1
        subst e1
        refine ⟨a :: qs, rfl, ⟨by simp [h1.1], fun i q s hq hs => ?_⟩, fun q hq => ?_⟩
        · cases i with
          | zero =>
            simp at hq hs
            subst hq hs
            exact s1.1
          | succ i => exact h1.2 i q s (by simpa using hq) (by simpa using hs)
        · rcases List.mem_cons.mp hq with rfl | hq
          · exact s1.2
          · exact h2 q hq
theorem Rvs.pairs {K : PySem.W.Frag} {W : Wd} : ∀ {ps : List (Int × Int)} {qs : List Addr}, PairsR W.H qs ps → (∀ q ∈ qs, ¬ W.N q) → Rvs K W (qs.map V.ref) (ps.map pairD)
  | [], [], _, _ => .nil
  | [], _ :: _, h, _ => by have := h.1; simp at this
  | _ :: _, [], h, _ => by have := h.1; simp at this
  | p :: ps, q :: qs, h, n => by
    refine .cons (.tup ⟨h.2 0 q p rfl rfl, n q List.mem_cons_self⟩ (.cons (.int _) (.cons (.int _) .nil))) (Rvs.pairs ⟨by simpa using h.1, fun i a s ha hs => h.2 (i + 1) a s (by simpa using ha) (by simpa using hs)⟩ fun a ha => n a (List.mem_cons_of_mem _ ha))
theorem cd_sorted : CallD X (.builtin "sorted") sortedD := by
  intro pins s σ H xs us Q I r h
  obtain ⟨W, ds, P, rfl, ok, rs, g, k⟩ := h
  unfold sortedD at g
  split at g
  · obtain ⟨v0, rfl, q0⟩ := rvs1 rs
    cases q0 with
    | lst s1 t1 =>
      rcases g with ⟨ns, e, g⟩ | ⟨ps, e, g⟩
      · subst e
        have e1 := t1.of_ints
        subst e1
        refine cr_sortedI pins s σ W.H _ us Q I r ⟨_, ns, rfl, s1.sq, fun ns' p h1 h2 np => ?_⟩
        rw [isort_one h1 h2]
        exact k.newL ok (Rvs.ints _) g p np
      · subst e
        obtain ⟨qs, e, h1, h2⟩ := t1.of_pairs
        subst e
        refine cr_sortRL pins s σ W.H _ us Q I r ⟨_, _, rfl, s1.sq, h1.mem, fun ys p j1 j2 np => ?_⟩
        have jp := j2.perm
        obtain ⟨rs, e, j3⟩ := h1.sorted j1 jp
        subst e
        refine k.newL ok (Rvs.pairs j3 fun q hq => ?_) g p np
        have : V.ref q ∈ qs.map V.ref := jp.mem_iff.mp (List.mem_map_of_mem hq)
        obtain ⟨q', hq', e'⟩ := List.mem_map.mp this
        cases e'
        exact h2 q hq'
  · obtain ⟨v0, rfl, q0⟩ := rvs1 rs
    obtain ⟨ps, e, g⟩ := g
    subst e
    cases q0 with
    | tup s1 t1 =>
      obtain ⟨qs, e, h1, h2⟩ := t1.of_pairs
      subst e
      refine cr_sortRT pins s σ W.H _ us Q I r ⟨_, _, rfl, s1.sq, h1.mem, fun ys p j1 j2 np => ?_⟩
      have jp := j2.perm
      obtain ⟨rs, e, j3⟩ := h1.sorted j1 jp
      subst e
      refine k.newL ok (Rvs.pairs j3 fun q hq => ?_) g p np
      have : V.ref q ∈ qs.map V.ref := jp.mem_iff.mp (List.mem_map_of_mem hq)
      obtain ⟨q', hq', e'⟩ := List.mem_map.mp this
      cases e'
      exact h2 q hq'
  · obtain ⟨v0, rfl, q0⟩ := rvs1 rs
    obtain ⟨ps, m, g⟩ := g
    obtain ⟨_, vs, eH, t1⟩ := ok.m _ _ m
    cases q0 with
    | obj _ =>
      obtain ⟨qs, e, h1, h2⟩ := t1.of_pairs
      subst e
      refine cr_sortRL pins s σ W.H _ us Q I r ⟨_, _, rfl, SqL.of eH, h1.mem, fun ys p j1 j2 np => ?_⟩
      have jp := j2.perm
      obtain ⟨rs, e, j3⟩ := h1.sorted j1 jp
      subst e
      refine k.newL ok (Rvs.pairs j3 fun q hq => ?_) g p np
      have : V.ref q ∈ qs.map V.ref := jp.mem_iff.mp (List.mem_map_of_mem hq)
      obtain ⟨q', hq', e'⟩ := List.mem_map.mp this
      cases e'
      exact h2 q hq'
  · exact g.elim
end
/-- repr of data that is fine -/
def D.fine (d : D) : Prop := d.ok = true ∧ Fine d.py
/-! ### what is walked -/
section
variable {X : Cx} {tg : Expr}
/-- a list or a tuple -/
def iSeq (K : PySem.W.Frag) (tl : TE) : TI := fun σ H R => tl σ H fun x H1 => ∃ a, x = .ref a ∧ ((∃ xs, SqL K H1 a xs) ∧ R (Itl K a) H1 ∨ (∃ xs, SqT K H1 a xs) ∧ R (Itt K a) H1)
theorem pi_seq {l : Expr} {tl : TE} (hl : PE X l tl) : PI X tg l (iSeq X.K tl) := by
  refine ⟨fun pins s σ H R I h => thn (hl.run pins s σ H _ I h) fun v s1 ⟨x, H1, I1, r1, a, e, q1⟩ => ?_⟩
  subst e
  cases r1
  have new : ∀ b ∈ [s1.heap.objs.size], FpOk X pins H1 b := fun b hb => by
    rw [List.mem_singleton.mp hb]
    exact I1.fpOk (Nat.le_refl _) (I1.hok.fresh (Nat.le_refl _))
  rcases q1 with ⟨⟨xs, hq⟩, q⟩ | ⟨⟨xs, hq⟩, q⟩
  · obtain ⟨its, rv, p, hz⟩ := I1.list hq
    exact wpAny_pyIter_list p.isList ⟨s1.heap.objs.size, [s1.heap.objs.size], _, _, H1, rfl, I1.kept (t' := s1.toks) fun b o e => Heap.get?_push_of_some _ e, turn_list a _, ⟨_, Heap.get?_push_size _ rfl, rfl, rfl⟩, new, q⟩
  · obtain ⟨its, rv, p, hz⟩ := I1.tuple hq
    exact wpAny_pyIter_tuple (show s1.heap.IsTuple a its.toArray from p) ⟨s1.heap.objs.size, [s1.heap.objs.size], _, _, H1, rfl, I1.kept (t' := s1.toks) fun b o e => Heap.get?_push_of_some _ e, turn_tuple a _, ⟨_, Heap.get?_push_size _ rfl, rfl, rfl⟩, new, q⟩
def seqD (d : D) (M : Mem) (P : List D → Mem → Prop) : Prop := match d with
  | .tup ds => P ds M
  | .lst ds => P ds M
  | _ => False
def wSeqI (we : DW) : DIW := fun Γ M P => we Γ M fun d M1 => seqD d M1 P
theorem walkT {K : PySem.W.Frag} {W : Wd} (ok : Ok K W) {a : Addr} {vs : List V} {ds : List D} (s1 : StT K W a vs) (t1 : Rvs K W vs ds) : WalkD K (Itt K a) ds W := by
  refine ⟨fun i W1 hi f k => ?_, fun W1 f k => ⟨vs, (s1.fr ok f).sq, by rw [t1.length]; exact Nat.le_refl _⟩, fun i W1 x H2 hi f k y => ?_⟩
  · obtain ⟨v, hv, _⟩ := t1.get (List.getElem?_eq_getElem hi)
    exact ⟨vs, v, (s1.fr ok f).sq, hv⟩
  · obtain ⟨e, y⟩ := y
    obtain ⟨d, hd, r⟩ := t1.get' (y vs (s1.fr ok f).sq)
    exact ⟨d, W1, hd, e.symm, rfl, Fr.refl W1, k, r.fr ok f⟩
theorem walkL {K : PySem.W.Frag} {W : Wd} (ok : Ok K W) {a : Addr} {vs : List V} {ds : List D} (s1 : StL K W a vs) (t1 : Rvs K W vs ds) : WalkD K (Itl K a) ds W := by
  refine ⟨fun i W1 hi f k => ?_, fun W1 f k => ⟨vs, (s1.fr ok f).sq, by rw [t1.length]; exact Nat.le_refl _⟩, fun i W1 x H2 hi f k y => ?_⟩
  · obtain ⟨v, hv, _⟩ := t1.get (List.getElem?_eq_getElem hi)
    exact ⟨vs, v, (s1.fr ok f).sq, hv⟩
  · obtain ⟨e, y⟩ := y
    obtain ⟨d, hd, r⟩ := t1.get' (y vs (s1.fr ok f).sq)
    exact ⟨d, W1, hd, e.symm, rfl, Fr.refl W1, k, r.fr ok f⟩
theorem di_seq {e : Expr} {we : DW} (h : DE X e we) : DI X tg e (wSeqI we) := PI.imp (pi_seq h) fun σ H R q => by
  obtain ⟨Γ, W, P, rfl, c, w, k⟩ := q
  refine ⟨Γ, W, _, rfl, c, w, fun d W1 v w1 f1 k1 r1 => ?_⟩
  cases r1 with
  | tup s1 t1 => exact ⟨_, rfl, .inr ⟨⟨_, s1.sq⟩, k _ W1 _ w1 f1 k1 (walkT k1 s1 t1)⟩⟩
  | lst s1 t1 => exact ⟨_, rfl, .inl ⟨⟨_, s1.sq⟩, k _ W1 _ w1 f1 k1 (walkL k1 s1 t1)⟩⟩
  | _ => exact (show False from w1).elim
def rngD (lo : Int) (n : Nat) : List D := (List.range n).map fun i => D.int (lo + (i : Nat))
theorem rngD_get {lo : Int} {n i : Nat} (h : i < n) : (rngD lo n)[i]? = some (.int (lo + (i : Nat))) := by
  unfold rngD
  rw [List.getElem?_map, List.getElem?_range h]
  rfl
theorem rngD_len {lo : Int} {n : Nat} : (rngD lo n).length = n := by
  unfold rngD
  rw [List.length_map, List.length_range]
theorem walkR {K : PySem.W.Frag} {W : Wd} (lo : Int) (n : Nat) : WalkD K (Itr lo n) (rngD lo n) W := by
  refine ⟨fun i W1 hi f k => ?_, fun W1 f k => ?_, fun i W1 x H2 hi f k y => ?_⟩
  · rw [rngD_len] at hi
    exact hi
  · show n ≤ _
    rw [rngD_len]
    exact Nat.le_refl _
  · rw [rngD_len] at hi
    obtain ⟨e, y⟩ := y
    subst y
    exact ⟨_, W1, rngD_get hi, e.symm, rfl, Fr.refl W1, k, .int _⟩
def wRng1 (wa : DAW) : DIW := fun Γ M P => wa Γ M fun ds M1 => match ds with
  | [.int j] => -(2 ^ 62) ≤ j ∧ j < 2 ^ 62 ∧ P (rngD 0 j.toNat) M1
  | _ => False
theorem di_range1 {a : Expr} {wa : DAW} {p pos : Pos} (hg : Gl X "range") (hm : X.mg "range" = none) (ha : DA X [a] wa) (hs : starEach [a] X.env = [(false, eval a X.env)] := by rfl) :
    DI X tg (.Call (.Name "range" p) [a] [] pos) (wRng1 wa) := PI.imp (pi_range1 hg hm ha hs) fun σ H R q => by
  obtain ⟨Γ, W, P, rfl, c, w, k⟩ := q
  refine ⟨Γ, W, _, rfl, c, w, fun ds W1 vs w1 f1 k1 r1 => ?_⟩
  split at w1
  · obtain ⟨v0, rfl, q0⟩ := rvs1 r1
    cases q0 with
    | int j =>
      exact ⟨_, rfl, w1.1, w1.2.1, k _ W1 _ w1.2.2 f1 k1 (walkR _ _)⟩
  · exact w1.elim
/-- enumerate of a tuple, of a list -/
def enumD (ds : List D) : List D := (List.range ds.length).map fun i => D.tup [.int (i : Nat), ds.getD i .non]
theorem enumD_get {ds : List D} {i : Nat} {d : D} (h : ds[i]? = some d) : (enumD ds)[i]? = some (.tup [.int (i : Nat), d]) := by
  have hi : i < ds.length := (List.getElem?_eq_some_iff.mp h).1
  unfold enumD
  rw [List.getElem?_map, List.getElem?_range hi]
  show some (D.tup [.int (i : Nat), ds.getD i .non]) = _
  rw [List.getD_eq_getElem?_getD, h]
  rfl
theorem enumD_len {ds : List D} : (enumD ds).length = ds.length := by
  unfold enumD
  rw [List.length_map, List.length_range]
theorem walkET {K : PySem.W.Frag} {W : Wd} (ok : Ok K W) {a : Addr} {vs : List V} {ds : List D} (s1 : StT K W a vs) (t1 : Rvs K W vs ds) : WalkD K (ItE K a) (enumD ds) W := by
  refine ⟨fun i W1 hi f k => ?_, fun W1 f k => ⟨vs, (s1.fr ok f).sq, by rw [enumD_len, t1.length]; exact Nat.le_refl _⟩, fun i W1 x H2 hi f k y => ?_⟩
  · rw [enumD_len] at hi
    obtain ⟨v, hv, _⟩ := t1.get (List.getElem?_eq_getElem hi)
    exact ⟨vs, v, (s1.fr ok f).sq, hv⟩
  · obtain ⟨T, z, rfl, nT, rfl, y⟩ := y
    obtain ⟨d, hd, r⟩ := t1.get' (y vs (s1.fr ok f).sq)
    exact ⟨_, W1.add T (.tup [.int (i : Nat), z]), enumD_get hd, rfl, rfl, Fr.add nT, k.add nT, Rv.newT k nT (.cons (.int _) (.cons (r.fr ok f) .nil))⟩
def wEnum (wa : DAW) : DIW := fun Γ M P => wa Γ M fun ds M1 => match ds with
  | [.tup es] => P (enumD es) M1
  | _ => False
theorem di_enumT {a : Expr} {wa : DAW} {p pos tpos : Pos} {elts : List Expr} {kk : Nat} (hg : Gl X "enumerate") (hm : X.mg "enumerate" = none) (ha : DA X [a] wa) (hs : starEach [a] X.env = [(false, eval a X.env)] := by rfl) :
    DI X (.Tuple elts kk tpos) (.Call (.Name "enumerate" p) [a] [] pos) (wEnum wa) := PI.imp (pi_enumT hg hm ha hs) fun σ H R q => by
  obtain ⟨Γ, W, P, rfl, c, w, k⟩ := q
  refine ⟨Γ, W, _, rfl, c, w, fun ds W1 vs w1 f1 k1 r1 => ?_⟩
  split at w1
  · obtain ⟨v0, rfl, q0⟩ := rvs1 r1
    cases q0 with
    | tup s1 t1 =>
      exact ⟨_, _, rfl, s1.sq, k _ W1 _ w1 f1 k1 (walkET k1 s1 t1)⟩
  · exact w1.elim
end
end RS
set_option Elab.async false
set_option linter.all false
set_option maxRecDepth 100000
/-! The data layer: isinstance, index, while, augmented assignment, zip, sorted(reverse), and how loops and comprehensions over data are read. -/
namespace RS
open PySem PySem.Spec PyProof.Rows L2 RZ
section
variable {X : Cx} {Vx : VX}
/-! ### isinstance -/
def isTy : D → String → Bool
  | .non, n => n == "NoneType"
  | .bl _, n => n == "bool" || n == "int"
  | .int _, n => n == "int"
  | .str _, n => n == "str"
  | .tup _, n => n == "tuple"
  | .lst _, n => n == "list"
  | .obj _, _ => false
  | .dct _, n => n == "dict"
  | .tpf _, n => n == "tuple"
def D.known : D → Bool
  | .obj _ => false
  | .tpf _ => false
  | _ => true
def tyList : List String := ["int", "bool", "str", "tuple", "list", "dict"]
def tyName : D → String
  | .non => "NoneType"
  | .bl _ => "bool"
  | .int _ => "int"
  | .str _ => "str"
  | .tup _ => "tuple"
  | .lst _ => "list"
  | .obj _ => ""
  | .dct _ => "dict"
  | .tpf _ => "tuple"
theorem tyName_of {K : PySem.W.Frag} {W : Wd} {v : V} {d : D} (r : Rv K W v d) (h : d.known = true) : TyX K W.H v (.type (tyName d)) := by
  cases r with
  | non => exact .base .non
  | bl b => exact .base (.bl b)
  | int i => exact .base (.int i)
  | str x => exact .base (.str x)
  | tup s1 _ =>
    rcases s1.1 with e | ⟨o, e⟩
    · exact .base (.tup e)
    · exact .fTuple e
  | lst s1 _ => exact .base (.lst s1.1)
  | dct s1 => exact .base (.dK s1.1)
  | tpf s1 t1 => cases h
  | obj v => cases h
theorem kit_isTy {d : D} (h : d.known = true) {n : String} (hn : n ∈ tyList) : kitB (tyName d) n = some (isTy d n) := by
  have hm : n = "int" ∨ n = "bool" ∨ n = "str" ∨ n = "tuple" ∨ n = "list" ∨ n = "dict" := by simpa [tyList] using hn
  cases d with
  | obj v => cases h
  | tpf v => cases h
  | _ => rcases hm with rfl | rfl | rfl | rfl | rfl | rfl <;> simp only [tyName, isTy] <;> decide +kernel
def isinstanceD : GN
  | [d, .obj (.ty n)], M, P => d.known = true ∧ n ∈ tyList ∧ P (.bl (isTy d n)) M
  | _, _, _ => False
theorem cd_isinstance : CallD X (.builtin "isinstance") isinstanceD := by
  intro pins s σ H xs us Q I r h
  obtain ⟨W, ds, P, rfl, ok, rs, g, k⟩ := h
  unfold isinstanceD at g
  split at g
  · obtain ⟨v0, v1, rfl, q0, q1⟩ := rvs2 rs
    obtain ⟨hk, hn, g⟩ := g
    cases q1 with
    | obj _ => exact call_isi pins s σ W.H _ us Q I r ⟨_, _, _, _, _, rfl, .ty _, tyName_of q0 hk, kit_ty (kit_isTy hk hn), k.now ok (.bl _) g⟩
  · exact g.elim
theorem de_ty {e : Expr} {n : String} (h : PE X e (tC (.ty n))) : DE X e (wC (.obj (.ty n))) := de_c h fun _ => .obj _
/-! ### list.index of ints, of data -/
def idxD (o d : D) (M : Mem) (P : DK) : Prop := match o with
  | .lst ds => d.fit ∧ (D.lst ds).fit ∧ ∃ j z, ds[j]? = some z ∧ PyData.eqv z.py d.py = true ∧ (∀ m z', m < j → ds[m]? = some z' → PyData.eqv z'.py d.py = false) ∧ P (.int (j : Nat)) M
  | _ => False
def wIdx (wo we : DW) : DW := fun Γ M P => wo Γ M fun o M1 => (∃ ds, o = .lst ds) ∧ we Γ M1 fun d M2 => idxD o d M2 P
theorem pys_get {ds : List D} {j : Nat} : (D.pys ds)[j]? = ds[j]?.map D.py := by
  rw [pys_map, List.getElem?_map]
theorem de_idx {e : Expr} {wo we : DW} (h : PE X e (tBM X.K "list" (rIndexD X.K) (lift X.K wo) (tCons (lift X.K we) tNil))) : DE X e (wIdx wo we) := PE.imp h fun σ H Q q => by
  obtain ⟨Γ, W, P, rfl, c, w, k⟩ := q
  refine ⟨Γ, W, _, rfl, c, w, fun o W1 ov w1 f1 k1 r1 => ?_⟩
  obtain ⟨⟨ds, e⟩, w1⟩ := w1
  subst e
  cases r1 with
  | lst s1 t1 =>
    refine ⟨.inl ⟨rfl, _, s1.sq⟩, Γ, W1, _, rfl, c.fr f1 k1, w1, fun d W2 v w2 f2 k2 r2 => ?_⟩
    obtain ⟨hd, hl, j, z, e1, e2, e3, p⟩ := w2
    have rl : Rv X.K W2 (.ref _) (.lst ds) := Rv.fr (.lst s1 t1) k1 f2
    have dl := Rv.dp _ rl hl.1
    have sl := hl.2
    simp only [D.py] at dl sl
    refine ⟨_, v, d.py, D.pys ds, j, z.py, rfl, rfl, dl, Rv.dp d r2 hd.1, sl, hd.2, by rw [pys_get, e1]; rfl, e2, fun m z' hm hz => ?_, (k.fr (f1.trans f2)).now k2 (.int _) p⟩
    rw [pys_get] at hz
    cases e4 : ds[m]? with
    | none => rw [e4] at hz; cases hz
    | some y =>
      rw [e4] at hz
      cases hz
      exact e3 m y hm e4
/-! ### not in -/
def notinD : G2
  | d, .lst ds, M, P => d.fit ∧ (D.lst ds).fit ∧ P (.bl (!ds.any fun z => PyData.eqv z.py d.py)) M
  | .int i, .tup ds, M, P => ∃ ns : List Int, ds = ns.map .int ∧ P (.bl (!decide (i ∈ ns))) M
  | _, _, _, _ => False
theorem inV_ints (i : Int) (ns : List Int) : inV (.int i) (ns.map V.int) = decide (i ∈ ns) := by
  unfold inV
  rw [List.any_map]
  induction ns with
  | nil => simp
  | cons n ns ih =>
    rw [List.any_cons, ih]
    simp only [Function.comp, eqV, List.mem_cons]
    by_cases h : i = n
    · subst h
      simp
    · have : (n == i) = false := beq_eq_false_iff_ne.mpr fun e => h e.symm
      simp [h, this]
theorem od_notin (hu : X.A.units + 65 < cLine) : OpD X (compareOp .NotIn) notinD := by
  intro pins s σ H x y v u Q I rx ry h
  obtain ⟨W, dx, dy, P, rfl, ok, r1, r2, g, k⟩ := h
  cases dy with
  | lst ds =>
    have h1 := Rv.dp _ r2 g.2.1.1
    have h2 := g.2.1.2
    simp only [D.py] at h1 h2
    exact op_notInD hu pins s σ W.H _ _ v u Q I rx ry ⟨_, _, Rv.dp dx r1 g.1.1, h1, g.1.2, h2, k.now ok (.bl _) (by rw [any_pys]; exact g.2.2)⟩
  | tup ds =>
    cases r1 with
    | int i =>
      obtain ⟨ns, e, g⟩ := g
      subst e
      cases r2 with
      | tup s1 t1 =>
        have e1 := t1.of_ints
        subst e1
        refine op_notIn_seq pins s σ W.H _ _ v u Q I rx ry ⟨_, _, rfl, .inr s1.sq, rfl, List.all_eq_true.mpr fun x hx => ?_, ?_⟩
        · obtain ⟨n, _, rfl⟩ := List.mem_map.mp hx
          rfl
        · rw [if_pos rfl, inV_ints]
          exact k.now ok (.bl _) g
    | _ => exact (show False from g).elim
  | _ => cases r1 <;> exact (show False from g).elim
/-! ### while, augmented assignment -/
def wWhile (wt : DTW) (wb : DS) : DS := fun F Γ M => ∃ I : Nat → DG → Mem → Prop, (∃ m, I m Γ M) ∧ ∀ m Γ M, I m Γ M → wt Γ M fun b M1 =>
  if b = true then ∃ N : DG → Mem → Prop, (∀ Γ' M', N Γ' M' → ∃ m', m' < m ∧ I m' Γ' M') ∧ wb { F with nx := N, ct := N, bk := F.nx } Γ M1 else F.nx Γ M1
theorem ds_while {t : Expr} {body : List Stmt} {pos : Pos} {wt : DTW} {wb : DS} (h : PS X (.While t body [] pos) (tWhile (liftT X.K wt) (liftS X.K Vx wb))) : DSt X Vx (.While t body [] pos) (wWhile wt wb) := PS.imp h fun E σ H q => by
  obtain ⟨Γ, W, F, rfl, c, ⟨I, ⟨m0, i0⟩, turn⟩, k⟩ := q
  refine ⟨fun m σ H => ∃ Γ W1, W1.H = H ∧ Cn X.K Γ W1 σ ∧ Fr W W1 ∧ I m Γ W1.M, ⟨m0, Γ, W, rfl, c, Fr.refl W, i0⟩, ?_⟩
  rintro m σ H ⟨Γ, W1, rfl, c1, f1, i1⟩
  refine ⟨Γ, W1, _, rfl, c1, turn m Γ W1.M i1, fun b W2 w2 f2 k2 => ?_⟩
  cases b with
  | true =>
    obtain ⟨N, hN, w2⟩ := w2
    refine ⟨fun σ' H' => ∃ Γ' W3, W3.H = H' ∧ Cn X.K Γ' W3 σ' ∧ Fr W W3 ∧ N Γ' W3.M, fun σ' H' ⟨Γ', W3, e3, c3, f3, n3⟩ => ?_, Γ, W2, _, rfl, c1.fr f2 k2, w2, ?_⟩
    · obtain ⟨m', hm, i'⟩ := hN _ _ n3
      exact ⟨m', hm, Γ', W3, e3, c3, f3, i'⟩
    · have f12 := f1.trans f2
      exact ⟨fun Γ' W' σ' p f c' => ⟨Γ', W', rfl, c', f12.trans f, p⟩, k.rt.fr f12, fun Γ' W' σ' p f c' => k.nx Γ' W' σ' p (f12.trans f) c', fun Γ' W' σ' p f c' => ⟨Γ', W', rfl, c', f12.trans f, p⟩, fun Γ' W' σ' n fs d p f c' x y => k.ex Γ' W' σ' n fs d p (f12.trans f) c' x (y.fr f12)⟩
  | false => exact k.nx Γ W2 σ w2 (f1.trans f2) (c1.fr f2 k2)
/-! ### list(..) as a list of one's own -/
/-! ### a, b = (e, []), o.extend(e) -/
/-! ### zip -/
/-! ### sorted(.., reverse=True) of ints -/
def rsort (ns : List Int) : List Int := (isort ns).reverse
theorem rsort_perm (ns : List Int) : (rsort ns).Perm ns := (List.reverse_perm _).trans (isort_perm ns)
theorem rsort_one {ns ms : List Int} (h1 : ms.Perm ns) (h2 : ms.Pairwise fun a b => b ≤ a) : ms = rsort ns := by
  have h3 := isort_one ((List.reverse_perm ms).trans h1) (List.pairwise_reverse.mpr h2)
  unfold rsort
  rw [← h3, List.reverse_reverse]
def wSortR (we : DW) : DW := fun Γ M P => we Γ M fun d M1 => ∃ ns : List Int, d = .lst (ns.map .int) ∧ P (.lst ((rsort ns).map .int)) M1
theorem de_sortR {e : Expr} {we : DW} {tk : TA} (h : PE X e (tCKw (rSortedKw X.K true [.bl true]) (tCons (lift X.K we) tNil) (tCons (tC (.bl true)) tNil))) : DE X e (wSortR we) := PE.imp h fun σ H Q q => by
  obtain ⟨Γ, W, P, rfl, c, w, k⟩ := q
  refine ⟨Γ, W, _, rfl, c, w, fun d W1 v w1 f1 k1 r1 => ?_⟩
  obtain ⟨ns, e, p⟩ := w1
  subst e
  cases r1 with
  | lst s1 t1 =>
    have e1 := t1.of_ints
    subst e1
    refine ⟨_, ns, rfl, rfl, s1.sq, fun ns' p h1 h2 np => ?_⟩
    have h2' : ns'.Pairwise fun a b => b ≤ a := by
      unfold OrdB at h2
      simpa using h2
    rw [rsort_one h1 h2']
    exact (k.fr f1).newL k1 (Rvs.ints _) ‹_› p np
end
/-! ### tuple(range(..)), list(range(..)) -/
theorem FnG.never {P : Program} {w : World} {K : PySem.W.Frag} {mg : Str → Option Value} {base : Heap} {CX : CXT} {k : Nat} {f : Addr} {fd : FuncData} {ps : List Str} : FnG P w K mg base CX k f fd ps (spD K fun _ _ _ => False) :=
  ⟨fun vs H Q E h => by
    obtain ⟨_, _, _, _, _, _, z, _⟩ := h
    exact z.elim, fun A outer s H args us vs Q E _ _ _ _ _ h => by
    obtain ⟨_, _, _, _, _, _, z, _⟩ := h
    exact z.elim⟩
/-! ### how loops and comprehensions are read -/
theorem lcO_ind {t : Tg} {wt : DTW} {we : DW} {Γ : DG} {P : List D → Mem → Prop} {items : List D} (I : Nat → List D → Mem → Prop)
    (step : ∀ (i : Nat) (d : D) (acc : List D) (M : Mem), items[i]? = some d → I i acc M → ∀ nx : List D → Mem → Prop, (∀ acc' M', I (i + 1) acc' M' → nx acc' M') →
      ∃ Γ1, tgD t d Γ = some Γ1 ∧ wt Γ1 M fun b M1 => if b = true then we Γ1 M1 fun y M2 => nx (acc ++ [y]) M2 else nx acc M1)
    (fin : ∀ acc M, I items.length acc M → P acc M) : ∀ {acc : List D} {M : Mem}, I 0 acc M → lcO t wt we Γ P items acc M := by
  have main : ∀ (n i : Nat), items.length - i = n → i ≤ items.length → ∀ acc M, I i acc M → lcO t wt we Γ P (items.drop i) acc M := by
    intro n
    induction n with
    | zero =>
      intro i hn hi acc M h
      have e : i = items.length := by omega
      subst e
      rw [List.drop_length]
      exact fin acc M h
    | succ n ih =>
      intro i hn hi acc M h
      have hlt : i < items.length := by omega
      rw [drop_get hlt]
      exact step i _ acc M (List.getElem?_eq_getElem hlt) h _ fun acc' M' h' => ih (i + 1) (by omega) hlt acc' M' h'
  intro acc M h
  exact main _ 0 rfl (Nat.zero_le _) acc M h
/-- nothing changes within -/
theorem lcO_pure {t : Tg} {wt : DTW} {we : DW} {Γ : DG} {P : List D → Mem → Prop} {items : List D} {M : Mem} (p : D → Bool) (f : D → D)
    (h : ∀ d ∈ items, ∃ Γ1, tgD t d Γ = some Γ1 ∧ (∀ Q : Bool → Mem → Prop, Q (p d) M → wt Γ1 M Q) ∧ (p d = true → ∀ Q : DK, Q (f d) M → we Γ1 M Q))
    (fin : P ((items.filter p).map f) M) : lcO t wt we Γ P items [] M := by
  refine lcO_ind (fun i acc M' => M' = M ∧ acc = ((items.take i).filter p).map f) ?_ ?_ ⟨rfl, by simp⟩
  · rintro i d acc M' hd ⟨rfl, rfl⟩ nx hn
    obtain ⟨Γ1, e1, h1, h2⟩ := h d (List.mem_of_getElem? hd)
    refine ⟨Γ1, e1, h1 _ ?_⟩
    by_cases hp : p d = true
    · rw [if_pos hp]
      refine h2 hp _ (hn _ _ ⟨rfl, ?_⟩)
      rw [List.take_add_one, hd]
      simp [hp]
    · rw [if_neg hp]
      refine hn _ _ ⟨rfl, ?_⟩
      rw [List.take_add_one, hd]
      simp [hp]
  · rintro acc M' ⟨rfl, rfl⟩
    rw [List.take_length]
    exact fin
theorem lcO_map {t : Tg} {we : DW} {Γ : DG} {P : List D → Mem → Prop} {items : List D} {M : Mem} (f : D → D)
    (h : ∀ d ∈ items, ∃ Γ1, tgD t d Γ = some Γ1 ∧ ∀ Q : DK, Q (f d) M → we Γ1 M Q) (fin : P (items.map f) M) : lcO t wYes we Γ P items [] M := by
  refine lcO_pure (fun _ => true) f (fun d hd => ?_) ?_
  · obtain ⟨Γ1, e1, h2⟩ := h d hd
    exact ⟨Γ1, e1, fun Q q => q, fun _ => h2⟩
  · rw [List.filter_eq_self.mpr fun _ _ => rfl]
    exact fin
theorem forD_ind {t : Tg} {wb : DS} {F : DEnds} {items : List D} (I : Nat → DG → Mem → Prop)
    (step : ∀ (i : Nat) (d : D) (Γ : DG) (M : Mem), items[i]? = some d → I i Γ M → ∀ nx : DG → Mem → Prop, (∀ Γ' M', I (i + 1) Γ' M' → nx Γ' M') →
      ∃ Γ1, tgD t d Γ = some Γ1 ∧ wb { F with nx := nx, ct := nx, bk := F.nx } Γ1 M)
    (fin : ∀ Γ M, I items.length Γ M → F.nx Γ M) : ∀ {Γ : DG} {M : Mem}, I 0 Γ M → forD t wb F items Γ M := by
  have main : ∀ (n i : Nat), items.length - i = n → i ≤ items.length → ∀ Γ M, I i Γ M → forD t wb F (items.drop i) Γ M := by
    intro n
    induction n with
    | zero =>
      intro i hn hi Γ M h
      have e : i = items.length := by omega
      subst e
      rw [List.drop_length]
      exact fin Γ M h
    | succ n ih =>
      intro i hn hi Γ M h
      have hlt : i < items.length := by omega
      rw [drop_get hlt]
      exact step i _ Γ M (List.getElem?_eq_getElem hlt) h _ fun Γ' M' h' => ih (i + 1) (by omega) hlt Γ' M' h'
  intro Γ M h
  exact main _ 0 rfl (Nat.zero_le _) Γ M h
end RS
set_option Elab.async false
set_option linter.all false
set_option maxRecDepth 100000
/-! The data layer: decks of draws, and a law's beginning. -/
namespace RS
open PySem PySem.Spec PyProof.Rows L2
structure DeckM (M : Mem) (d l : Addr) (n : Int) : Prop where
  top : M d = some (.dl [.obj (.ref l), .int n])
  cards : ∃ cs : List Int, M l = some (.dl (cs.map .int)) ∧ (∀ c ∈ cs, 0 ≤ c) ∧ cs.length ≤ 63
  ne : l ≠ d
  n0 : 0 ≤ n
def KeepM (d l : Addr) (M M' : Mem) : Prop := ∀ a o, a ≠ d → a ≠ l → M a = some o → M' a = some o
theorem KeepM.trans {d l : Addr} {M M1 M2 : Mem} (a : KeepM d l M M1) (b : KeepM d l M1 M2) : KeepM d l M M2 := fun c o h1 h2 h => b c o h1 h2 (a c o h1 h2 h)
theorem DeckM.upd {M : Mem} {d l a : Addr} {n : Int} {o : MO} (D : DeckM M d l n) (h1 : a ≠ d) (h2 : a ≠ l) : DeckM (updM M a o) d l n := by
  obtain ⟨cs, c1, c2, c3⟩ := D.cards
  exact ⟨by rw [updM_ne h1.symm]; exact D.top, ⟨cs, by rw [updM_ne h2.symm]; exact c1, c2, c3⟩, D.ne, D.n0⟩
theorem DeckM.free {M : Mem} {d l a : Addr} {n : Int} (D : DeckM M d l n) (h : M a = none) : a ≠ d ∧ a ≠ l := by
  obtain ⟨cs, c1, _⟩ := D.cards
  constructor
  · rintro rfl
    rw [D.top] at h
    cases h
  · rintro rfl
    rw [c1] at h
    cases h
/-- a draw below a limit -/
def gDraw : DSp := fun ds M P => ∃ d l n lim, ds = [.obj (.ref d), .int lim] ∧ DeckM M d l n ∧ n < 2 ^ 40 ∧ 0 < lim ∧ lim < 2 ^ 64 ∧ ∀ r M', 0 ≤ r → r < lim → DeckM M' d l (n + 1) → KeepM d l M M' → P (.int r) M'
theorem cdw {i j : Int} (h0 : 0 < j) (h1 : j < 2 ^ 64) : CDivW i j := wide_div (b := 64) h0 (by omega) (by decide) (by decide)
theorem cmw {i j : Int} (h0 : i.natAbs < 2 ^ 200) (h1 : j.natAbs < 2 ^ 200) : CMulW i j := wide_mul h0 h1 (by decide) (by decide) (by decide)
def w_drawC : DS := wSeq (wStore (wOp addD (wOp ixD (wName 0) (wC (.int 1))) (wC (.int 1))) (wName 0) (wC (.int 1))) (wSeq (wSet 2 (wC (.int 0))) (wSeq (wSet 3 (wUn negD (wC (.int 1)))) (wSeq (wIf (wCmpT gtD (wN lenD (wCons (wOp ixD (wName 0) (wC (.int 0))) (wNil))) (wC (.int 0))) (wSeq (wSet 3 (wOp modD (wOp ixD (wName 0) (wC (.int 1))) (wN lenD (wCons (wOp ixD (wName 0) (wC (.int 0))) (wNil))))) (wSet 2 (wOp ixD (wOp ixD (wName 0) (wC (.int 0))) (wName 3)))) (wNext)) (wSeq (wIf (wCmpT geD (wName 2) (wOp powD (wC (.int 10)) (wC (.int 18)))) (wSeq (wStore (wOp fdivD (wName 2) (wName 1)) (wOp ixD (wName 0) (wC (.int 0))) (wName 3)) (wRet (wOp modD (wName 2) (wName 1)))) (wNext)) (wRet (wOp modD (wOp modD (wOp powD (wOp addD (wOp addD (wOp modD (wName 2) (wC (.int 2147483587))) (wOp mulD (wC (.int 7919)) (wOp ixD (wName 0) (wC (.int 1))))) (wC (.int 1))) (wC (.int 5))) (wC (.int 2147483647))) (wName 1)))))))
/-- both ways end so -/
theorem draw_end {M : Mem} {d l : Addr} {n : Int} {cs : List Int} (h1 : M d = some (.dl [.obj (.ref l), .int n])) (h2 : M l = some (.dl (cs.map .int))) (h3 : ∀ c ∈ cs, 0 ≤ c) (h4 : cs.length ≤ 63) (h5 : l ≠ d) (h6 : 0 ≤ n) : DeckM M d l n := ⟨h1, ⟨cs, h2, h3, h4⟩, h5, h6⟩
theorem atI_D {ns : List Int} {j : Nat} {n : Int} (h : ns[j]? = some n) : atI (ns.map D.int) (j : Int) = some (.int n) := atI_nat (by rw [List.getElem?_map, h]; rfl)
theorem draw_set {M : Mem} {d l : Addr} {n lim c : Int} {cs : List Int} {j : Nat} (hD : M d = some (.dl [.obj (.ref l), .int n])) (h2 : M l = some (.dl (cs.map .int))) (hc : ∀ c ∈ cs, 0 ≤ c) (hlen : cs.length ≤ 63) (hdl : l ≠ d) (h6 : 0 ≤ n)
    (h0 : 0 < lim) (hcj : 0 ≤ c) : DeckM (updM M l (.dl ((cs.map D.int).set j (.int (c / lim))))) d l n := by
  refine ⟨by rw [updM_ne hdl.symm]; exact hD, ⟨cs.set j (c / lim), ?_, ?_, ?_⟩, hdl, h6⟩
  · rw [updM_same, List.map_set]
  · intro z hz
    rcases List.mem_or_eq_of_mem_set hz with hz | hz
    · exact hc z hz
    · rw [hz]
      exact Int.ediv_nonneg hcj (by omega)
  · rw [List.length_set]
    exact hlen
theorem sem_drawC {ds : List D} {M : Mem} {P : DK} (h : gDraw ds M P) : ds.length = 2 ∧ w_drawC (ends P) (ds.map some ++ List.replicate (4 - ds.length) none) M := by
  obtain ⟨d, l, n, lim, rfl, DK, hn, h0, h1, q⟩ := h
  refine ⟨rfl, ?_⟩
  obtain ⟨cs, hl, hc, hlen⟩ := DK.cards
  have hd := DK.top
  have hdl := DK.ne
  have hn0 := DK.n0
  refine ⟨_, _, hd, rfl, _, 1, hd, rfl, ?_⟩
  generalize hM0 : updM M d (.dl ([D.obj (.ref l), .int n].set 1 (.int (n + 1)))) = M0
  have d0 : M0 d = some (.dl [.obj (.ref l), .int (n + 1)]) := by
    rw [← hM0, updM_same]
    rfl
  have l0 : M0 l = some (.dl (cs.map .int)) := by
    rw [← hM0, updM_ne hdl]
    exact hl
  have k0 : KeepM d l M M0 := fun a o b1 _ h => by
    rw [← hM0, updM_ne b1]
    exact h
  have back : ∀ c : Int, 0 ≤ ((c % 2147483587 + 7919 * (n + 1) + 1) ^ (5 : Int).toNat % 2147483647) % lim ∧ ((c % 2147483587 + 7919 * (n + 1) + 1) ^ (5 : Int).toNat % 2147483647) % lim < lim :=
    fun c => ⟨Int.emod_nonneg _ (by omega), Int.emod_lt_of_pos _ h0⟩
  refine ⟨_, _, d0, rfl, _, l0, _, rfl, ite2 (fun e => ?_) (fun e => ?_)⟩
  · have e0 : (0 : Int) < (cs.map D.int).length := of_decide_eq_true e
    rw [List.length_map] at e0
    have m1 : 0 ≤ (n + 1) % (cs.length : Int) := Int.emod_nonneg _ (by omega)
    have m2 : (n + 1) % (cs.length : Int) < cs.length := Int.emod_lt_of_pos _ e0
    obtain ⟨j, hj⟩ : ∃ j : Nat, (n + 1) % (cs.length : Int) = (j : Int) := ⟨_, (Int.toNat_of_nonneg m1).symm⟩
    rw [hj] at m2
    have hjl : j < cs.length := by omega
    have gj : cs[j]? = some cs[j] := List.getElem?_eq_getElem hjl
    have hcj : 0 ≤ cs[j] := hc _ (List.getElem_mem hjl)
    generalize cs[j] = c at gj hcj
    have hjm : (n + 1) % (((cs.map D.int).length : Nat) : Int) = (j : Int) := by
      rw [List.length_map]
      exact hj
    refine ⟨_, _, d0, rfl, _, _, d0, rfl, _, l0, (by show (0 : Int) < ((cs.map D.int).length : Int); rw [List.length_map]; exact e0), _, _, d0, rfl, _, _, l0, (by rw [hjm]; exact atI_D gj), ?_⟩
    refine ⟨⟨by decide, by decide, by decide⟩, _, rfl, ite2 (fun e => ?_) (fun e => ?_)⟩
    · refine ⟨cdw h0 h1, _, _, d0, rfl, _, j, l0, ?_, h0, ?_⟩
      · rw [hjm, List.length_map]
        unfold ixN
        rw [if_pos (by omega), if_pos (by omega), Int.toNat_natCast]
      · exact q _ _ (Int.emod_nonneg _ (by omega)) (Int.emod_lt_of_pos _ h0) (draw_set d0 l0 hc hlen hdl (by omega) h0 hcj) (k0.trans fun a o b1 b2 h => by rw [updM_ne b2]; exact h)
    · refine ⟨by show (0 : Int) < 2147483587; decide, _, _, d0, rfl, cmw (by decide) (by omega), ⟨by decide, by decide, ?_⟩, by show (0 : Int) < 2147483647; decide, h0, ?_⟩
      · have a1 : 0 ≤ c % 2147483587 := Int.emod_nonneg _ (by decide)
        have a2 : c % 2147483587 < 2147483587 := Int.emod_lt_of_pos _ (by decide)
        omega
      · exact q _ _ (back c).1 (back c).2 (draw_end d0 l0 hc hlen hdl (by omega)) k0
  · refine ⟨⟨by decide, by decide, by decide⟩, _, rfl, ite2 (fun e => ?_) (fun e => ?_)⟩
    · exact absurd (of_decide_eq_true e) (by decide)
    · refine ⟨by show (0 : Int) < 2147483587; decide, _, _, d0, rfl, cmw (by decide) (by omega), ⟨by decide, by decide, ?_⟩, by show (0 : Int) < 2147483647; decide, h0, ?_⟩
      · omega
      · exact q _ _ (back 0).1 (back 0).2 (draw_end d0 l0 hc hlen hdl (by omega)) k0
/-! ### the beginning of a law -/
def deckM (d l : Addr) (cs : List Int) (n : Int) : Mem := updM (updM (fun _ => none) l (.dl (cs.map .int))) d (.dl [.obj (.ref l), .int n])
theorem law_go {Vx : VX} {K : PySem.W.Frag} {w : DS} {E : Ends} {σ : L2.St} {H1 : Hp} {d l : Addr} {n : Nat} (hlen : σ.length = n) (h1 : σ[1]? = some (some (.ref d))) (DK : Deck H1 d l 0)
    (sem : ∀ M, DeckM M d l 0 → w lawEnds ((List.replicate n none).set 1 (some (.obj (.ref d)))) M) (q : ∀ H', E.rt (.bl true) H') : liftS K Vx w E σ H1 := by
  obtain ⟨cs, c1, c2, c3⟩ := DK.cards
  have ne := DK.ne
  have m1 : deckM d l cs 0 d = some (.dl [.obj (.ref l), .int 0]) := updM_same
  have m2 : deckM d l cs 0 l = some (.dl (cs.map .int)) := by
    unfold deckM
    rw [updM_ne ne, updM_same]
  have ok : Ok K ⟨deckM d l cs 0, fun a => a = d ∨ a = l, H1⟩ := by
    refine ⟨fun a o e => ?_⟩
    have e' : deckM d l cs 0 a = some o := e
    by_cases ha : a = d
    · subst ha
      rw [m1] at e'
      cases e'
      exact ⟨.inl rfl, _, DK.top, .cons (.obj _) (.cons (.int _) .nil)⟩
    · by_cases hb : a = l
      · subst hb
        rw [m2] at e'
        cases e'
        exact ⟨.inr rfl, _, c1, Rvs.ints cs⟩
      · unfold deckM at e'
        rw [updM_ne ha, updM_ne hb] at e'
        cases e'
  refine ⟨(List.replicate n none).set 1 (some (.obj (.ref d))), ⟨deckM d l cs 0, fun a => a = d ∨ a = l, H1⟩, _, rfl, ⟨ok, by simp [hlen], fun i x hi => ?_⟩, sem _ ⟨m1, ⟨cs, m2, c2, c3⟩, ne, by decide⟩,
    ⟨fun _ _ _ p => p.elim, fun r W' v p f k rv => ?_, fun _ _ _ p => p.elim, fun _ _ _ p => p.elim, fun _ _ _ _ _ _ p => p.elim⟩⟩
  · rw [List.getElem?_set] at hi
    by_cases h : 1 = i
    · subst h
      rw [if_pos rfl] at hi
      split at hi
      · cases hi
        exact ⟨_, h1, .obj _⟩
      · cases hi
    · rw [if_neg h, List.getElem?_replicate] at hi
      split at hi <;> cases hi
  · subst p
    cases rv
    exact q _
end RS
set_option Elab.async false
set_option linter.all false
set_option maxRecDepth 100000
/-! What the defs do, by data: specs. -/
namespace RS
open PySem PySem.Spec PyProof.Rows L2
end RS
set_option Elab.async false
set_option linter.all false
set_option maxRecDepth 100000
namespace RS
open PySem PySem.Spec PyProof.Rows L2
def w_set_height : DS := wRet (wOp addD (wOp addD (wSl (wName 0) (wNoPart) (wPart (wName 1))) (wN gTupN (wCons (wName 2) (wNil)))) (wSl (wName 0) (wPart (wOp addD (wName 1) (wC (.int 1)))) (wNoPart)))
theorem cutD_to (xs : List D) (k : Nat) : cutD xs none (some (k : Int)) = xs.take k := by
  unfold cutD
  rw [HT.sIx_none, HT.sIx_nat, Nat.sub_zero, List.drop_zero]
  by_cases h : k ≤ xs.length
  · rw [Nat.min_eq_left h]
  · rw [Nat.min_eq_right (by omega), List.take_length, List.take_of_length_le (by omega)]
theorem cutD_from (xs : List D) (k : Nat) : cutD xs (some (k : Int)) none = xs.drop k := by
  unfold cutD
  rw [HT.sIx_none, HT.sIx_nat]
  by_cases h : k ≤ xs.length
  · rw [Nat.min_eq_left h, List.take_of_length_le]
    rw [List.length_drop]
    omega
  · rw [Nat.min_eq_right (by omega), Nat.sub_self, List.take_zero, List.drop_of_length_le (by omega)]
theorem small_line {n : Nat} (h : n ≤ 1000000) : n ≤ sizeLine := by
  rw [sizeLine_eq]
  omega
theorem eqv_int (i j : Int) : PyData.eqv (D.int i).py (D.int j).py = decide (i = j) := by
  simp only [D.py, PyData.eqv]
  by_cases h : i = j <;> simp [h]
theorem ixN_nat {n j : Nat} (h : j < n) : ixN n (j : Int) = some j := by
  unfold ixN
  rw [if_pos (by omega), if_pos (by omega), Int.toNat_natCast]
/-! ### _law_same of ints, of tuples of ints -/
theorem eqv_bool (a b : Bool) : PyData.eqv (D.bl a).py (D.bl b).py = decide (a = b) := by
  cases a <;> cases b <;> simp [D.py, PyData.eqv]
theorem fit_bl (b : Bool) : (D.bl b).fit := ⟨rfl, rfl⟩
theorem fit_li (ns : List Int) : (D.lst (ns.map .int)).fit := by
  refine ⟨by simp only [D.ok]; exact oks_ints _, ?_⟩
  simp only [D.py, pys_ints]
  exact shaped_li _
theorem fit_ti (ns : List Int) : (D.tup (ns.map .int)).fit := by
  refine ⟨by simp only [D.ok]; exact oks_ints _, ?_⟩
  simp only [D.py, pys_ints]
  exact shaped_ti _
theorem eqvD_ti (as bs : List Int) : PyData.eqv (D.tup (as.map .int)).py (D.tup (bs.map .int)).py = decide (as = bs) := by
  simp only [D.py, pys_ints]
  exact eqv_ti as bs
end RS
set_option Elab.async false
set_option linter.all false
set_option maxRecDepth 100000
namespace RS
open PySem PySem.Spec PyProof.Rows L2
/-! ### turning -/
theorem ext_len {α : Type} {a b : List α} (hl : a.length = b.length) (h : ∀ k, k < a.length → a[k]? = b[k]?) : a = b := by
  apply List.ext_getElem?
  intro k
  by_cases hk : k < a.length
  · exact h k hk
  · rw [List.getElem?_eq_none (by omega), List.getElem?_eq_none (by omega)]
/-! ### repr of a tuple of heights -/
/-- the items of range(n) -/
theorem rng_mem {lo : Int} {n : Nat} {d : D} (h : d ∈ rngD lo n) : ∃ i : Nat, i < n ∧ d = .int (lo + (i : Nat)) := by
  unfold rngD at h
  obtain ⟨i, hi, rfl⟩ := List.mem_map.mp h
  exact ⟨i, List.mem_range.mp hi, rfl⟩
def natOf : D → Nat
  | .int i => i.toNat
  | _ => 0
end RS
set_option Elab.async false
set_option linter.all false
set_option maxRecDepth 100000
namespace RS
open PySem PySem.Spec PyProof.Rows L2
/-! ### set_height, insert_height, remove_place -/
def putL {α : Type} (xs : List α) (j : Nat) (v : α) : List α := xs.take j ++ [v] ++ xs.drop (j + 1)
def insL {α : Type} (xs : List α) (j : Nat) (v : α) : List α := xs.take j ++ [v] ++ xs.drop j
def delL {α : Type} (xs : List α) (j : Nat) : List α := xs.take j ++ xs.drop (j + 1)
theorem put_map (hs : List Int) (j : Nat) (v : Int) : putL (hs.map D.int) j (.int v) = (putL hs j v).map D.int := by simp [putL]
theorem ins_map (hs : List Int) (j : Nat) (v : Int) : insL (hs.map D.int) j (.int v) = (insL hs j v).map D.int := by simp [insL]
theorem del_map (hs : List Int) (j : Nat) : delL (hs.map D.int) j = (delL hs j).map D.int := by simp [delL]
def g_set_height : DSp := fun ds M P => ∃ (xs : List D) (j : Nat) (v : D), ds = [.tup xs, .int j, v] ∧ xs.length ≤ 1000 ∧ j < xs.length ∧ P (.tup (putL xs j v)) M
def g_insert_height : DSp := fun ds M P => ∃ (xs : List D) (j : Nat) (v : D), ds = [.tup xs, .int j, v] ∧ xs.length < 24 ∧ j ≤ xs.length ∧ P (.tup (insL xs j v)) M
def g_remove_place : DSp := fun ds M P => ∃ (xs : List D) (j : Nat), ds = [.tup xs, .int j] ∧ 1 < xs.length ∧ xs.length ≤ 1000 ∧ j < xs.length ∧ P (.tup (delL xs j)) M
theorem sem_set_height {ds : List D} {M : Mem} {P : DK} (h : g_set_height ds M P) : ds.length = 3 ∧ w_set_height (ends P) (ds.map some ++ List.replicate (3 - ds.length) none) M := by
  obtain ⟨xs, j, v, rfl, hl, hj, p⟩ := h
  refine ⟨rfl, small_line (by show 1 ≤ 1000000; decide), ?_⟩
  have e1 : cutD xs none (some (j : Int)) = xs.take j := cutD_to xs j
  have e2 : cutD xs (some ((j : Int) + 1)) none = xs.drop (j + 1) := cutD_from xs (j + 1)
  refine ⟨?_, ?_⟩
  · rw [e1, List.length_take]
    exact small_line (by show min j xs.length + 1 ≤ 1000000; omega)
  · show _ ∧ P (.tup (cutD xs none (some (j : Int)) ++ [v] ++ cutD xs (some ((j : Int) + 1)) none)) M
    rw [e1, e2]
    exact ⟨small_line (by simp; omega), p⟩
section
variable {α : Type} {xs : List α} {j k : Nat} {v w : α}
theorem put_len (h : j < xs.length) : (putL xs j v).length = xs.length := by
  unfold putL
  simp
  omega
theorem ins_len (h : j ≤ xs.length) : (insL xs j v).length = xs.length + 1 := by
  unfold insL
  simp
  omega
theorem del_len (h : j < xs.length) : (delL xs j).length = xs.length - 1 := by
  unfold delL
  simp
  omega
theorem put_set (h : j < xs.length) : putL xs j v = xs.set j v := by
  unfold putL
  rw [List.append_assoc, List.singleton_append, List.set_eq_take_append_cons_drop, if_pos h]
end
theorem enum_mem {hs : List Int} {d : D} (h : d ∈ enumD (hs.map D.int)) : ∃ (k : Nat) (x : Int), k < hs.length ∧ hs[k]? = some x ∧ d = .tup [.int k, .int x] := by
  unfold enumD at h
  rw [List.length_map] at h
  obtain ⟨k, hk, rfl⟩ := List.mem_map.mp h
  have hk' := List.mem_range.mp hk
  refine ⟨k, hs[k], hk', List.getElem?_eq_getElem hk', ?_⟩
  rw [List.getD_eq_getElem?_getD, List.getElem?_map, List.getElem?_eq_getElem hk']
  rfl
end RS
set_option Elab.async false
set_option linter.all false
set_option maxRecDepth 100000
namespace RS
open PySem PySem.Spec PyProof.Rows L2
/-! ### objects that are needed no more may be forgotten at the end of a def -/
def Sub (M M' : Mem) : Prop := ∀ a o, M a = some o → M' a = some o
theorem Sub.refl (M : Mem) : Sub M M := fun _ _ h => h
theorem Sub.trans {M M1 M2 : Mem} (a : Sub M M1) (b : Sub M1 M2) : Sub M M2 := fun c o h => b c o (a c o h)
theorem Sub.upd {M M' : Mem} (s : Sub M M') {L : Addr} {o : MO} (n : M L = none) : Sub M (updM M' L o) := fun a u h => by
  have hne : a ≠ L := by
    rintro rfl
    rw [n] at h
    cases h
  rw [updM_ne hne]
  exact s a u h
theorem Sub.none {M M' : Mem} (s : Sub M M') {L : Addr} (n : M' L = none) : M L = none := by
  cases e : M L with
  | none => rfl
  | some o =>
    rw [s L o e] at n
    cases n
abbrev endsS (P : DK) : DEnds := ⟨fun _ M' => ∃ M'', Sub M'' M' ∧ P .non M'', fun d M' => ∃ M'', Sub M'' M' ∧ P d M'', fun _ _ => False, fun _ _ => False, fun _ _ _ _ => False⟩
theorem cont_sub {K : PySem.W.Frag} {W : Wd} {P : DK} {Q : VK} (k : Cont K W P Q) : Cont K W (fun d M' => ∃ M'', Sub M'' M' ∧ P d M'') Q := fun d W' v ⟨M'', sb, p⟩ f ok r => by
  have cr : Carry K W' ⟨M'', W'.N, W'.H⟩ := ⟨fun h n => ⟨h, n⟩⟩
  refine k d ⟨M'', W'.N, W'.H⟩ v p (fun a o h1 h2 => ?_) ⟨fun a o e => ?_⟩ (Rv.carry cr _ _ r)
  · obtain ⟨x1, x2, x3⟩ := f a o h1 h2
    exact ⟨x1, sb.none x2, x3⟩
  · obtain ⟨h1, h2⟩ := ok.m a o (sb a o e)
    exact ⟨h1, h2.carry cr rfl⟩
theorem okDs {P : Program} {w : World} {K : PySem.W.Frag} {mg : Str → Option Value} {base : Heap} {x qual : Str} {st : Stmt} {f : Addr} {fd : FuncData} {N ps : List Str} {k : Nat} {g : DSp} (F : Fun K x qual st f fd)
    (S : FnScope N ps (defScope st)) (len : ∀ ds M P, g ds M P → ds.length = ps.length)
    (walk : ∀ (cdv : Value) (A : Around) (outer : List Env) (s : Shared) (H : Hp) (E : XK), A.guards = some [] → Room k (A.deeper (envOfC qual (defScope st) s.heap.objs.size f cdv)) →
      ∃ t, DSs (cxOf CX0 P w K mg base N qual (defScope st) f cdv A outer s H E).nox VF (defBody st) t ∧ ∀ ds M P, g ds M P → t (endsS P) (ds.map some ++ List.replicate (N.length - ds.length) none) M) :
    FnG P w K mg base CX0 (k + 1) f fd ps (spD K g) := by
  have h := okD (g := fun ds M P' => ∃ P, g ds M P ∧ P' = fun d M' => ∃ M'', Sub M'' M' ∧ P d M'') F S (fun ds M P' ⟨P, q, _⟩ => len ds M P q) (fun cdv A outer s H E hgd hr => by
    obtain ⟨t, ht, hq⟩ := walk cdv A outer s H E hgd hr
    refine ⟨t, ht, ?_⟩
    rintro ds M P' ⟨P, q, rfl⟩
    exact hq ds M P q)
  refine h.imp ?_
  rintro vs H Q E ⟨W, ds, P, rfl, ok, r, q, kk⟩
  exact ⟨W, ds, _, rfl, ok, r, ⟨P, q, rfl⟩, cont_sub kk⟩
end RS
set_option Elab.async false
set_option linter.all false
set_option maxRecDepth 100000
namespace RS
open PySem PySem.Spec PyProof.Rows L2
/-! ### the end of a law whose def may call repr -/
theorem law_callG {P : Program} {w : World} {K : PySem.W.Frag} {mg mb : Str → Option Value} {k : Nat} {fa a : Addr} {fd : FuncData}
    {x : Str} {sp : Sp} {s1 : Shared} {vs : List Value} {ns : List Int}
    (inK : K.In s1.heap) (ng : s1.heap.Ns mainGlobals mg) (nb : s1.heap.Ns builtinsNs mb)
    (bb : ∀ y : Str, y ≠ "__name__" → mb y = bootBuiltins y) (lim : s1.heap.NoLimit) (hgen : s1.gens = #[])
    (ha : s1.heap.get? a = some { cls := .type "list", data := .seq vs.toArray }) (hnts : IntsAre vs ns) (small : ns.length ≤ sizeLine)
    (room : Room k callerA)
    (F : ∀ base : Heap, K.In base → base.Ns mainGlobals mg → FnG P w K mg base CX0 k fa fd [x] sp)
    (bnd : ∀ (s : Shared) (u : Value), BindsTo s fd ⟨[u], []⟩ [(x, u)])
    (prom : ∀ H : Hp, SqL K H a (ns.map V.int) → sp [.ref a] H (fun v _ => v = .bl true) E0) :
    codeAny (model P w) callerA (.call (.ref fa) ⟨[.ref a], []⟩)
      (fun r s' => r = .ok (.ret (.bool true)) ∧ OldK s1.heap s'.heap ∧ s'.os = s1.os ∧ AllBare s'.gens) s1 := by
  have rel := vals_ints hnts
  have lenV := hnts.length
  have main : ∀ H : Hp, (∀ b u, H b = some u → b = a ∧ ∃ o xs, u = .frz o (.lst xs)) → (∀ u, H a = some u → K.lookup a = none) →
      SqL K H a (ns.map V.int) → HOk P w H s1.heap →
      codeAny (model P w) callerA (.call (.ref fa) ⟨[.ref a], []⟩)
        (fun r s' => r = .ok (.ret (.bool true)) ∧ OldK s1.heap s'.heap ∧ s'.os = s1.os ∧ AllBare s'.gens) s1 := by
    intro H only notK sq hok
    have seen : ∀ {b : Addr} {o : Obj}, s1.heap.get? b = some o → H b = none → (hidT s1.heap H).get? b = some o := fun e n => hidT_get e n
    have noDict : ∀ {b : Addr} {o : Obj} {es : Array DictEntry} {ep : Nat}, s1.heap.get? b = some o → o.data = .dict es ep → H b = none := by
      intro b o es ep e d
      cases q : H b with
      | none => rfl
      | some u =>
        obtain ⟨rfl, _⟩ := only b u q
        rw [ha] at e
        cases e
        cases d
    have keepNs : ∀ {b : Addr} {m : Str → Option Value}, s1.heap.Ns b m → (hidT s1.heap H).Ns b m := by
      rintro b m ⟨o, es, ep, e, d, r⟩
      exact ⟨o, es, ep, seen e (noDict e d), d, r⟩
    have inB : K.In (hidT s1.heap H) := by
      intro b o e
      refine seen (inK b o e) ?_
      cases q : H b with
      | none => rfl
      | some u =>
        obtain ⟨rfl, _⟩ := only b u q
        rw [notK u q] at e
        cases e
    obtain ⟨mc, c1, c2⟩ := lim
    have md : Mod K mg (hidT s1.heap H) := ⟨inB, keepNs ng, ⟨mb, keepNs nb, bb⟩, ⟨mc, keepNs c1, c2⟩⟩
    have ev : Env0 P w K mg (hidT s1.heap H) callerA [] s1 H :=
      { frames := rfl, mod := md, bs := fun b o e => of_hidT e, bsz := Nat.le_of_eq (hidT_size _ _), funs := trivial,
        frf := fun b hb => (List.not_mem_nil hb).elim, hok := hok, bare := .of_eq hgen }
    refine codeAny_mono ((F _ inB (keepNs ng)).run callerA [] s1 H ⟨[.ref a], []⟩ [.ref a] [.ref a] _ _ rfl room ev (bnd s1 (.ref a)) (.cons rfl .nil) (prom H sq)) ?_
    intro r s' h
    cases r with
    | error e => exact h.elim
    | ok fl =>
      cases fl with
      | next => exact h.elim
      | brk => exact h.elim
      | cont => exact h.elim
      | ret u =>
        obtain ⟨v, H', os, bare, un, hok', rv, q⟩ := h
        obtain rfl : v = .bl true := q
        obtain rfl : u = Value.bool true := rv
        refine ⟨rfl, OldK.of_keep ?_, os, bare⟩
        intro b o e
        cases q : H b with
        | none => exact un.keep b o e q (fun z => (List.not_mem_nil z).elim) (by simp)
        | some u =>
          obtain ⟨_, ob, xs, rfl⟩ := only b u q
          obtain ⟨e1, _⟩ := hok b _ q
          obtain ⟨e2, _⟩ := hok' b _ (un.frzs b ob _ q)
          rw [e] at e1
          cases e1
          exact e2
  cases hk : K.lookup a with
  | some o =>
    have e := inK a o hk
    rw [ha] at e
    cases e
    refine main (fun _ => none) (fun b u z => nomatch z) (fun u z => nomatch z) ?_ (fun b u z => nomatch z)
    exact .inr ⟨_, vs.toArray, _, hk, rfl, rfl, rfl, by rw [List.size_toArray, lenV]; exact small, by simpa using rel⟩
  | none =>
    let o0 : Obj := { cls := .type "list", data := .seq vs.toArray }
    have at_ : ∀ b u, (if b = a then some (HO.frz o0 (.lst (ns.map V.int))) else none) = some u → b = a ∧ u = HO.frz o0 (.lst (ns.map V.int)) := by
      intro b u z
      by_cases hb : b = a
      · rw [if_pos hb] at z
        exact ⟨hb, (Option.some.inj z).symm⟩
      · rw [if_neg hb] at z
        cases z
    refine main (fun b => if b = a then some (.frz o0 (.lst (ns.map V.int))) else none) ?_ (fun _ _ => hk) (.inl (.inr ⟨o0, if_pos rfl⟩)) ?_
    · intro b u z
      obtain ⟨h1, h2⟩ := at_ b u z
      exact ⟨h1, _, _, h2⟩
    · intro b u z
      obtain ⟨h1, h2⟩ := at_ b u z
      subst h1
      subst h2
      exact ⟨ha, by rw [List.length_map]; exact small, vs, _, rel, ha⟩
theorem walk_ofG {l : PySem.W.OpenLaw} {n k : Nat} {q : Program} {loose : List Str} {XP : (Str → Option Value) → Heap → Prop}
    {YP : World → Heap → Prop} {d : DefRec} {K : Params → PySem.W.Frag} {sp : PySem.W.Frag → Sp} {x : Str}
    (hn : l.most = some n) (hn2 : n ≤ sizeLine) (hdf : d.params.defaults = []) (room : Room k callerA)
    (hY : ∀ (w : World) (h : Heap), YP w h → (K w.params).In h)
    (F : ∀ (w : World) (mg : Str → Option Value) (fa : Addr) (h : Heap), (K w.params).In h → h.Ns mainGlobals mg → mg d.name = some (.ref fa) →
      ∃ fd : FuncData, (∀ (s : Shared) (u : Value), BindsTo s fd ⟨[u], []⟩ [(x, u)]) ∧
        ∀ base : Heap, (K w.params).In base → base.Ns mainGlobals mg → FnG l.prog w (K w.params) mg base CX0 k fa fd [x] (sp (K w.params)))
    (prom : ∀ (K : PySem.W.Frag) (H : Hp) (a : Addr) (ns : List Int), ns.length ≤ n → SqL K H a (ns.map V.int) →
      sp K [.ref a] H (fun v _ => v = .bl true) E0) :
    PySem.W.WalkO q loose XP YP l.row.toRowW d [] (fun f vs => PySem.call f vs) := by
  refine Att.attach_call hn hdf ?_
  intro w s0 s1 mg mb fa o pm cd doc a vs ns G Y ho hd hcd hmg hobj hints hlen hg
  have inK := hY w _ Y
  obtain ⟨fd, hb, hF⟩ := F w mg fa _ inK G.T.g hmg
  exact law_callG inK G.T.g G.T.b G.T.builtins G.T.nolimit hg hobj hints (Nat.le_trans hlen hn2) room hF hb fun H sq => prom _ H a ns hlen sq
end RS
namespace RS
open PySem PySem.Spec PyProof.Rows L2
/-! ### what the top has written -/
/-- the def st stands under its name -/
structure DefAt (K : PySem.W.Frag) (x : Str) (st : Stmt) : Prop where
  ex : ∃ (f : Addr) (oc : Value) (od : Option Addr) (kV dc pm : Value) (an : Option Addr) (cd ct : Value) (sl : Array (Option Value)),
    PySem.W.nsIn K mainGlobals x = some (some (.ref f)) ∧
    K.lookup f = some ⟨oc, od, .func (PySem.W.fnOf x x (defArgs st) (defBody st) (defScope st) .none kV dc pm an cd ct), sl⟩ ∧
    PySem.W.codeIn K cd x = true ∧ PySem.W.keepIn K (.ref f) = true
theorem def_mk {K : PySem.W.Frag} {x : Str} {st : Stmt} {f : Addr} {oc : Value} {od : Option Addr} {kV dc pm : Value} {an : Option Addr} {cd ct : Value}
    {sl : Array (Option Value)} (h1 : PySem.W.nsIn K mainGlobals x = some (some (.ref f)))
    (h2 : K.lookup f = some ⟨oc, od, .func (PySem.W.fnOf x x (defArgs st) (defBody st) (defScope st) .none kV dc pm an cd ct), sl⟩)
    (h3 : PySem.W.codeIn K cd x = true) (h4 : PySem.W.keepIn K (.ref f) = true) : DefAt K x st := ⟨f, oc, od, kV, dc, pm, an, cd, ct, sl, h1, h2, h3, h4⟩
theorem DefAt.get {K : PySem.W.Frag} {x : Str} {st : Stmt} {h : Heap} {mg : Str → Option Value} (d : DefAt K x st) (X : K.In h) (G : h.Ns mainGlobals mg) :
    ∃ (f : Addr) (fd : FuncData), Fun K x x st f fd ∧ mg x = some (.ref f) ∧
      ∃ (kV dc pm : Value) (an : Option Addr) (cd ct : Value), fd = PySem.W.fnOf x x (defArgs st) (defBody st) (defScope st) .none kV dc pm an cd ct := by
  obtain ⟨f, oc, od, kV, dc, pm, an, cd, ct, sl, h1, h2, h3, h4⟩ := d.ex
  exact ⟨f, _, fun_mk h2 h3 h4, PySem.W.mg_of X G h1, kV, dc, pm, an, cd, ct, rfl⟩
end RS
set_option Elab.async false
set_option linter.all false
set_option maxRecDepth 100000
namespace RS
open PySem PySem.Spec PyProof.Rows L2
/-! ### movement, level by level -/
def mv : Int → List Int → Int → Int
  | a, [], b => absI (b - a)
  | a, x :: l, b => absI (x - a) + mv x l b
def mk1 (k : Int) (x : Int) : Bool := decide (k + 1 ≤ x)
/-! ### lows and highs -/
/-! ### the widest swing -/
end RS
set_option Elab.async false
set_option linter.all false
set_option maxRecDepth 100000
/-! The program's defs, by data: turns, movement, passages, removals, swings. -/
namespace RS
open PySem PySem.Spec PyProof.Rows L2
def g_heights_after : DSp := fun ds M P => ∃ (hs : List Int) (i : Nat), ds = [.tup (hs.map .int), .int i] ∧ i < hs.length ∧ hs.length ≤ 1000 ∧ P (.tup ((after hs i).map .int)) M
def g_next_other_height : DSp := fun ds M P => ∃ (hs : List Int) (i : Nat), ds = [.tup (hs.map .int), .int i] ∧ i < hs.length ∧ hs.length ≤ 1000 ∧ P (.int (nextOther hs i)) M
def g_is_turn : DSp := fun ds M P => ∃ (hs : List Int) (i : Nat), ds = [.tup (hs.map .int), .int i] ∧ i < hs.length ∧ hs.length ≤ 1000 ∧ P (.bl (isTurn hs i)) M
def g_turning_places : DSp := fun ds M P => ∃ hs : List Int, ds = [.tup (hs.map .int)] ∧ hs.length ≤ 1000 ∧ P (.tup ((natInts (turnsOf hs)).map .int)) M
def pairN (p : Nat × Nat) : D := .tup [.int (p.1 : Nat), .int (p.2 : Nat)]
def g_valley_first : DSp := fun ds M P => ∃ (hs : List Int) (a b : Nat), ds = [.tup (hs.map .int), .int a, .int b] ∧ a < hs.length ∧ b < hs.length ∧ P (pairN (valFirst hs a b)) M
def g_flattest_pair : DSp := fun ds M P => ∃ (hs : List Int) (left : List Nat), ds = [.tup (hs.map .int), .tup ((natInts left).map .int)] ∧ left ≠ [] ∧ (∀ t ∈ left, t < hs.length) ∧ left.length ≤ 1000 ∧ P (pairN (stepPair hs left)) M
def g_without_pair : DSp := fun ds M P => ∃ (left : List Nat) (pr : Nat × Nat), ds = [.tup ((natInts left).map .int), pairN pr] ∧ left.length ≤ 1000 ∧ P (.tup ((natInts (without left pr)).map .int)) M
def g_find_removal : DSp := fun ds M P => ∃ hs : List Int, ds = [.tup (hs.map .int)] ∧ hs.length ≤ 1000 ∧ P (.tup ((removal hs).map pairN)) M
def g_swings_of : DSp := fun ds M P => ∃ hs : List Int, ds = [.tup (hs.map .int)] ∧ hs.length ≤ 1000 ∧ P (.tup ((swingsOf hs).map pairD)) M
def w_heights_after : DS := wRet (wOp addD (wSl (wName 0) (wPart (wOp addD (wName 1) (wC (.int 1)))) (wNoPart)) (wSl (wName 0) (wNoPart) (wPart (wName 1))))
def w_next_other_height_b0 : DS := wIf (wCmpT neD (wName 2) (wOp ixD (wName 0) (wName 1))) (wRet (wName 2)) (wNext)
def w_next_other_height : DS := wSeq (wFor (wSeqI (wN g_heights_after (wCons (wName 0) (wCons (wName 1) (wNil))))) (Tg.nm 2) (w_next_other_height_b0)) (wRet (wOp ixD (wName 0) (wName 1)))
def w_is_turn : DS := wSeq (wSet 2 (wOp ixD (wName 0) (wName 1))) (wSeq (wSet 3 (wOp ixD (wName 0) (wOp subD (wName 1) (wC (.int 1))))) (wSeq (wIf (wCmpT eqD (wName 3) (wName 2)) (wRet (wC (.bl false))) (wNext)) (wRet (wOp eqD (wOp ltD (wName 3) (wName 2)) (wOp ltD (wN g_next_other_height (wCons (wName 0) (wCons (wName 1) (wNil)))) (wName 2))))))
def w_turning_places : DS := wRet (wN tupleD (wCons (wLc (wRng1 (wCons (wN lenD (wCons (wName 0) (wNil))) (wNil))) (Tg.nm 1) (wTru (wN g_is_turn (wCons (wName 0) (wCons (wName 1) (wNil))))) (wName 1) [1]) (wNil)))
def w_valley_first : DS := wRet (wIfE (wCmpT ltD (wOp ixD (wName 0) (wName 1)) (wOp ixD (wName 0) (wName 2))) (wN gTupN (wCons (wName 1) (wCons (wName 2) (wNil)))) (wN gTupN (wCons (wName 2) (wCons (wName 1) (wNil)))))
def w_flattest_pair : DS := wSeq (wSet 2 (wLc (wEnum (wCons (wName 1) (wNil))) (Tg.tp [Tg.nm 4, Tg.nm 5]) (wYes) (wN absD (wCons (wOp subD (wOp ixD (wName 0) (wName 5)) (wOp ixD (wName 0) (wOp ixD (wName 1) (wOp subD (wName 4) (wC (.int 1)))))) (wNil))) [4, 5])) (wSeq (wSet 3 (wIdx (wName 2) (wN minD (wCons (wName 2) (wNil))))) (wRet (wN g_valley_first (wCons (wName 0) (wCons (wOp ixD (wName 1) (wOp subD (wName 3) (wC (.int 1)))) (wCons (wOp ixD (wName 1) (wName 3)) (wNil)))))))
def w_without_pair : DS := wRet (wN tupleD (wCons (wLc (wSeqI (wName 0)) (Tg.nm 2) (wCmpT notinD (wName 2) (wName 1)) (wName 2) [2]) (wNil)))
def w_find_removal_b0 : DS := wSeq (wSet 3 (wN g_flattest_pair (wCons (wName 0) (wCons (wName 1) (wNil))))) (wSeq (wDrop (wApp (wName 2) (wName 3))) (wSet 1 (wN g_without_pair (wCons (wName 1) (wCons (wName 3) (wNil))))))
def w_find_removal : DS := wSeq (wSet 1 (wN g_turning_places (wCons (wName 0) (wNil)))) (wSeq (wSetOwn 2 (wLstO (wNil))) (wSeq (wWhile (wTru (wName 1)) (w_find_removal_b0)) (wRet (wN tupleD (wCons (wName 2) (wNil))))))
def w_swings_of : DS := wRet (wN tupleD (wCons (wN sortedD (wCons (wLc (wSeqI (wN g_find_removal (wCons (wName 0) (wNil)))) (Tg.tp [Tg.nm 1, Tg.nm 2]) (wYes) (wN gTupN (wCons (wOp ixD (wName 0) (wName 1)) (wCons (wOp ixD (wName 0) (wName 2)) (wNil)))) [1, 2]) (wNil))) (wNil)))
theorem atI_getD {hs : List Int} {j : Nat} (h : j < hs.length) : atI (hs.map D.int) (j : Int) = some (.int (hs.getD j 0)) := by
  rw [List.getD_eq_getElem?_getD]
  exact atI_D (by rw [List.getElem?_eq_getElem h]; rfl)
theorem atI_prev {ns : List Int} {i : Nat} (hi : i < ns.length) : atI (ns.map D.int) ((i : Int) - 1) = some (.int (prevOf ns i)) := by
  have hl : (ns.map D.int).length = ns.length := List.length_map ..
  unfold atI ixN
  rw [hl]
  by_cases h0 : i = 0
  · subst h0
    rw [if_neg (by omega), if_pos (by omega)]
    have e : ((((0 : Nat) : Int) - 1) + (ns.length : Int)).toNat = ns.length - 1 := by omega
    rw [e]
    show (ns.map D.int)[ns.length - 1]? = _
    unfold prevOf
    rw [if_pos rfl, List.getElem?_map, List.getElem?_eq_getElem (by omega), List.getD_eq_getElem?_getD, List.getElem?_eq_getElem (by omega)]
    rfl
  · rw [if_pos (by omega), if_pos (by omega)]
    have e : ((i : Int) - 1).toNat = i - 1 := by omega
    rw [e]
    show (ns.map D.int)[i - 1]? = _
    unfold prevOf
    rw [if_neg h0, List.getElem?_map, List.getElem?_eq_getElem (by omega), List.getD_eq_getElem?_getD, List.getElem?_eq_getElem (by omega)]
    rfl
theorem sem_heights_after {ds : List D} {M : Mem} {P : DK} (h : g_heights_after ds M P) : ds.length = 2 ∧ w_heights_after (ends P) (ds.map some ++ List.replicate (2 - ds.length) none) M := by
  obtain ⟨hs, i, rfl, hi, hl, p⟩ := h
  have e1 : cutD (hs.map D.int) none (some (i : Int)) = (hs.map D.int).take i := cutD_to _ i
  have e2 : cutD (hs.map D.int) (some ((i : Int) + 1)) none = (hs.map D.int).drop (i + 1) := cutD_from _ (i + 1)
  refine ⟨rfl, ?_⟩
  show _ ∧ P (.tup (cutD (hs.map D.int) (some ((i : Int) + 1)) none ++ cutD (hs.map D.int) none (some (i : Int)))) M
  rw [e1, e2]
  refine ⟨small_line (by simp; omega), ?_⟩
  have e3 : (hs.map D.int).drop (i + 1) ++ (hs.map D.int).take i = (after hs i).map .int := by simp [after]
  rw [e3]
  exact p
theorem sem_next_other_height {ds : List D} {M : Mem} {P : DK} (h : g_next_other_height ds M P) : ds.length = 2 ∧ w_next_other_height (ends P) (ds.map some ++ List.replicate (3 - ds.length) none) M := by
  obtain ⟨hs, i, rfl, hi, hl, p⟩ := h
  refine ⟨rfl, hs, i, rfl, hi, hl, ?_⟩
  refine forD_ind (fun j Γ M' => (∃ y : Option D, Γ = [some (.tup (hs.map .int)), some (.int i), y]) ∧ M' = M ∧ ∀ (j' : Nat) (x : Int), j' < j → (after hs i)[j']? = some x → x = hs.getD i 0) ?_ ?_ ⟨⟨none, rfl⟩, rfl, fun j' _ h => absurd h (Nat.not_lt_zero _)⟩
  · rintro j x Γ M' hx ⟨⟨y, rfl⟩, rfl, hall⟩ nx hnx
    rw [List.getElem?_map] at hx
    cases hc : (after hs i)[j]? with
    | none => rw [hc] at hx; cases hx
    | some c =>
      rw [hc] at hx
      cases hx
      refine ⟨_, rfl, _, atI_getD hi, _, rfl, ite2 (fun e => ?_) (fun e => ?_)⟩
      · have hne : c ≠ hs.getD i 0 := by
          intro z
          rw [decide_eq_true z] at e
          cases e
        have hf : otherOf hs i = some c := by
          unfold otherOf
          refine find_some (j := j) (fun j' x hj hx => ?_) hc (decide_eq_true hne)
          rw [hall j' x hj hx]
          exact decide_eq_false (fun z => z rfl)
        have hn : nextOther hs i = c := by
          unfold nextOther
          rw [hf]
          rfl
        rw [hn] at p
        exact p
      · have he : c = hs.getD i 0 := by
          refine Classical.byContradiction fun hne => e ?_
          rw [decide_eq_false hne]
          rfl
        refine hnx _ _ ⟨⟨_, rfl⟩, rfl, fun j' x hj hz => ?_⟩
        by_cases hjj : j' < j
        · exact hall j' x hjj hz
        · have : j' = j := by omega
          subst this
          rw [hc] at hz
          cases hz
          exact he
  · rintro Γ M' ⟨⟨y, rfl⟩, rfl, hall⟩
    have hf : otherOf hs i = none := by
      unfold otherOf
      refine find_none fun j' x hx => ?_
      have hj : j' < ((after hs i).map D.int).length := by
        rw [List.length_map]
        exact (List.getElem?_eq_some_iff.mp hx).1
      rw [hall j' x hj hx]
      exact decide_eq_false (fun z => z rfl)
    have hn : nextOther hs i = hs.getD i 0 := by
      unfold nextOther
      rw [hf]
      rfl
    rw [hn] at p
    exact ⟨_, atI_getD hi, p⟩
theorem sem_is_turn {ds : List D} {M : Mem} {P : DK} (h : g_is_turn ds M P) : ds.length = 2 ∧ w_is_turn (ends P) (ds.map some ++ List.replicate (4 - ds.length) none) M := by
  obtain ⟨hs, i, rfl, hi, hl, p⟩ := h
  refine ⟨rfl, _, atI_getD hi, _, atI_prev hi, _, rfl, ite2 (fun e => ?_) (fun e => ?_)⟩
  · have hv : isTurn hs i = false := by
      unfold isTurn
      rw [if_pos (of_decide_eq_true e)]
    rw [hv] at p
    exact p
  · refine ⟨hs, i, rfl, hi, hl, fit_bl _, fit_bl _, ?_⟩
    rw [eqv_bool]
    have hv : isTurn hs i = decide (decide (prevOf hs i < hs.getD i 0) = decide (nextOther hs i < hs.getD i 0)) := by
      unfold isTurn
      rw [if_neg (fun z => e (decide_eq_true z))]
    rw [hv] at p
    exact p
/-- the places of range(n) that pass a test -/
theorem rng_filter (n : Nat) (q : D → Bool) (b : Nat → Bool) (h : ∀ i : Nat, i < n → q (.int (i : Nat)) = b i) : ((rngD 0 n).filter q).map (fun x => x) = (natInts ((List.range n).filter b)).map .int := by
  have e : rngD 0 n = (List.range n).map fun i : Nat => D.int (i : Int) := by
    unfold rngD
    refine List.map_congr_left fun i _ => ?_
    congr 1
    omega
  rw [e, List.map_id']
  unfold natInts
  rw [List.map_map, List.filter_map]
  have : (List.range n).filter (q ∘ fun i : Nat => D.int (i : Int)) = (List.range n).filter b := List.filter_congr fun i hi => h i (List.mem_range.mp hi)
  rw [this]
  rfl
theorem rng_mem0 {n : Nat} {d : D} (h : d ∈ rngD 0 n) : ∃ i : Nat, i < n ∧ d = .int (i : Nat) := by
  obtain ⟨i, hi, rfl⟩ := rng_mem h
  exact ⟨i, hi, by congr 1; omega⟩
theorem sem_turning_places {ds : List D} {M : Mem} {P : DK} (h : g_turning_places ds M P) : ds.length = 1 ∧ w_turning_places (ends P) (ds.map some ++ List.replicate (2 - ds.length) none) M := by
  obtain ⟨hs, rfl, hl, p⟩ := h
  have hlm : (hs.map D.int).length = hs.length := List.length_map ..
  refine ⟨rfl, by show -(2 ^ 62) ≤ (((hs.map D.int).length : Nat) : Int); omega, by show (((hs.map D.int).length : Nat) : Int) < 2 ^ 62; omega, by rw [rngD_len]; omega, rfl, ?_⟩
  refine lcO_pure (fun x => isTurn hs (natOf x)) (fun x => x) (fun x hx => ?_) ?_
  · obtain ⟨i, hi, rfl⟩ := rng_mem0 hx
    rw [Int.toNat_natCast, hlm] at hi
    exact ⟨_, rfl, fun Q q => ⟨hs, i, rfl, hi, hl, q⟩, fun _ Q q => q⟩
  · rw [Int.toNat_natCast, hlm, rng_filter hs.length _ (isTurn hs) (fun i hi => by show isTurn hs ((i : Int).toNat) = _; rw [Int.toNat_natCast])]
    exact p
theorem sem_valley_first {ds : List D} {M : Mem} {P : DK} (h : g_valley_first ds M P) : ds.length = 3 ∧ w_valley_first (ends P) (ds.map some ++ List.replicate (3 - ds.length) none) M := by
  obtain ⟨hs, a, b, rfl, ha, hb, p⟩ := h
  refine ⟨rfl, _, atI_getD ha, _, atI_getD hb, _, rfl, ite2 (fun e => ?_) (fun e => ?_)⟩
  · have hv : valFirst hs a b = (a, b) := if_pos (of_decide_eq_true e)
    rw [hv] at p
    exact ⟨small_line (by show 2 ≤ 1000000; decide), p⟩
  · have hv : valFirst hs a b = (b, a) := if_neg fun z => e (decide_eq_true z)
    rw [hv] at p
    exact ⟨small_line (by show 2 ≤ 1000000; decide), p⟩
theorem nat_mem {left : List Nat} {d : D} (h : d ∈ (natInts left).map D.int) : ∃ t : Nat, t ∈ left ∧ d = .int (t : Nat) := by
  obtain ⟨x, hx, rfl⟩ := List.mem_map.mp h
  obtain ⟨t, ht, rfl⟩ := List.mem_map.mp hx
  exact ⟨t, ht, rfl⟩
theorem sem_without_pair {ds : List D} {M : Mem} {P : DK} (h : g_without_pair ds M P) : ds.length = 2 ∧ w_without_pair (ends P) (ds.map some ++ List.replicate (3 - ds.length) none) M := by
  obtain ⟨left, pr, rfl, hl, p⟩ := h
  refine ⟨rfl, by rw [List.length_map, natInts_len]; omega, rfl, ?_⟩
  refine lcO_pure (fun x => !(decide (natOf x = pr.1) || decide (natOf x = pr.2))) (fun x => x) (fun x hx => ?_) ?_
  · obtain ⟨t, ht, rfl⟩ := nat_mem hx
    refine ⟨_, rfl, fun Q q => ⟨[(pr.1 : Int), (pr.2 : Int)], rfl, _, rfl, ?_⟩, fun _ Q q => q⟩
    have e : (!decide ((t : Int) ∈ [(pr.1 : Int), (pr.2 : Int)])) = !(decide (natOf (.int (t : Nat)) = pr.1) || decide (natOf (.int (t : Nat)) = pr.2)) := by
      have e1 : natOf (.int (t : Nat)) = t := Int.toNat_natCast t
      rw [e1]
      congr 1
      rw [Bool.eq_iff_iff]
      simp only [decide_eq_true_eq, Bool.or_eq_true, List.mem_cons, List.not_mem_nil, or_false]
      omega
    rw [e]
    exact q
  · have e : (((natInts left).map D.int).filter fun x => !(decide (natOf x = pr.1) || decide (natOf x = pr.2))).map (fun x => x) = (natInts (without left pr)).map .int := by
      rw [List.map_id']
      unfold natInts without
      rw [List.map_map, List.filter_map, List.map_map]
      rfl
    rw [e]
    exact p
theorem rng_ranges (hs : List Int) (left : List Nat) (f : D → D) (hf : ∀ (k : Nat) (t : Nat), k < left.length → left[k]? = some t → f (.tup [.int k, .int (t : Nat)]) = .int (absI (hgt hs t - hgt hs (left.getD (pre_ left.length k) 0)))) :
    (enumD ((natInts left).map .int)).map f = (rangesOf hs left).map .int := by
  refine ext_len (by rw [List.length_map, enumD_len, List.length_map, List.length_map, ranges_len, natInts_len]) fun k hk => ?_
  rw [List.length_map, enumD_len, List.length_map, natInts_len] at hk
  have g : left[k]? = some left[k] := List.getElem?_eq_getElem hk
  rw [List.getElem?_map, enumD_get (by rw [List.getElem?_map, natInts_get g]; rfl), List.getElem?_map, ranges_get g]
  exact congrArg some (hf k left[k] hk g)
theorem sem_flattest_pair {ds : List D} {M : Mem} {P : DK} (h : g_flattest_pair ds M P) : ds.length = 2 ∧ w_flattest_pair (ends P) (ds.map some ++ List.replicate (6 - ds.length) none) M := by
  obtain ⟨hs, left, rfl, hne, hlt, hl, p⟩ := h
  have hln : ((natInts left).map D.int).length = left.length := by rw [List.length_map, natInts_len]
  have lpos : 0 < left.length := List.length_pos_iff.mpr hne
  have hp : ∀ k, k < left.length → left.getD (pre_ left.length k) 0 < hs.length := fun k hk => hlt _ (getD_mem (pre_lt hk))
  refine ⟨rfl, by rw [enumD_len]; omega, rfl, ?_⟩
  refine lcO_map (fun x => match x with
    | .tup [.int k, .int y] => .int (absI (hgt hs y.toNat - hgt hs (left.getD (pre_ left.length k.toNat) 0)))
    | _ => .non) (fun x hx => ?_) ?_
  · obtain ⟨k, y, hk, hy, rfl⟩ := enum_mem hx
    rw [natInts_len] at hk
    have hy' : left[k]? = some left[k] := List.getElem?_eq_getElem hk
    have ey : y = (left[k] : Nat) := by
      rw [natInts_get hy'] at hy
      exact (Option.some.inj hy).symm
    subst ey
    have h1 : left[k] < hs.length := hlt _ (List.getElem_mem hk)
    refine ⟨_, rfl, fun Q q => ⟨_, atI_getD h1, _, atI_prev (by rw [natInts_len]; exact hk), ?_⟩⟩
    rw [natInts_prev hk]
    exact ⟨_, atI_getD (hp k hk), q⟩
  · rw [rng_ranges hs left _ (fun k t hk ht => by
      show D.int (absI (hgt hs ((t : Int).toNat) - hgt hs (left.getD (pre_ left.length ((k : Int).toNat)) 0))) = _
      rw [Int.toNat_natCast, Int.toNat_natCast])]
    have rne : rangesOf hs left ≠ [] := by
      intro z
      have := ranges_len hs left
      rw [z] at this
      simp at this
      omega
    refine ⟨⟨_, rfl⟩, ?_⟩
    refine ⟨rangesOf hs left, rfl, by rw [ranges_len]; exact lpos, fun m hm hmin => ?_⟩
    obtain ⟨m', g1, g2⟩ := firstMin_spec rne
    have em : m = m' := by
      have a := hmin m' (List.mem_of_getElem? g1)
      have b := g2 m hm
      omega
    subst em
    have hat : atOf hs left < left.length := by
      have := (List.getElem?_eq_some_iff.mp g1).1
      rw [ranges_len] at this
      exact this
    refine ⟨⟨rfl, rfl⟩, fit_li _, atOf hs left, .int m, by rw [List.getElem?_map]; show ((rangesOf hs left)[firstMin (rangesOf hs left)]?).map D.int = _; rw [g1]; rfl, by rw [eqv_int]; exact decide_eq_true rfl, fun j z hj hz => ?_, ?_⟩
    · rw [List.getElem?_map] at hz
      cases hx : (rangesOf hs left)[j]? with
      | none => rw [hx] at hz; cases hz
      | some x =>
        rw [hx] at hz
        cases hz
        rw [eqv_int]
        refine decide_eq_false ?_
        rintro rfl
        exact firstMin_lt hj hx g2
    · refine ⟨_, atI_prev (i := atOf hs left) (by rw [natInts_len]; exact hat), ?_⟩
      rw [natInts_prev hat]
      have e2 : (natInts left)[atOf hs left]? = some ((left.getD (atOf hs left) 0 : Nat) : Int) := by
        have g : left[atOf hs left]? = some left[atOf hs left] := List.getElem?_eq_getElem hat
        rw [natInts_get g, List.getD_eq_getElem?_getD, g]
        rfl
      refine ⟨_, atI_D e2, ?_⟩
      exact ⟨hs, left.getD (pre_ left.length (atOf hs left)) 0, left.getD (atOf hs left) 0, rfl, hp _ hat, hlt _ (getD_mem hat), p⟩
theorem without_short {hs : List Int} {left : List Nat} (hne : left ≠ []) : (without left (stepPair hs left)).length < left.length := by
  have lpos : 0 < left.length := List.length_pos_iff.mpr hne
  have hr : rangesOf hs left ≠ [] := by
    intro z
    have := ranges_len hs left
    rw [z] at this
    simp at this
    omega
  obtain ⟨m', g1, g2⟩ := firstMin_spec hr
  have hat : atOf hs left < left.length := by
    have := (List.getElem?_eq_some_iff.mp g1).1
    rw [ranges_len] at this
    exact this
  have hm : left.getD (atOf hs left) 0 ∈ left := getD_mem hat
  unfold without
  refine Nat.lt_of_le_of_ne (List.length_filter_le _ _) fun e => ?_
  have := (List.length_filter_eq_length_iff.mp e) _ hm
  unfold stepPair valFirst at this
  split at this <;> simp at this
theorem sem_find_removal {ds : List D} {M : Mem} {P : DK} (h : g_find_removal ds M P) : ds.length = 1 ∧ w_find_removal (endsS P) (ds.map some ++ List.replicate (4 - ds.length) none) M := by
  obtain ⟨hs, rfl, hl, p⟩ := h
  refine ⟨rfl, hs, rfl, hl, small_line (by decide), fun L nL => ?_⟩
  refine ⟨fun m Γ M' => ∃ (left : List Nat) (prs : List (Nat × Nat)) (y : Option D), Γ = [some (.tup (hs.map .int)), some (.tup ((natInts left).map .int)), some (.obj (.ref L)), y] ∧ M' L = some (.dl (prs.map pairN)) ∧ Sub M M' ∧
    left.length ≤ m ∧ (∀ t ∈ left, t < hs.length) ∧ left.length ≤ 1000 ∧ prs.length + left.length ≤ 1000 ∧ removal hs = prs ++ removalGo hs m left, ⟨_, turnsOf hs, [], none, rfl, updM_same, (Sub.refl M).upd nL, Nat.le_refl _, turns_lt, Nat.le_trans (turns_len hs) hl, by
      have := turns_len hs
      show 0 + (turnsOf hs).length ≤ 1000
      omega, rfl⟩, ?_⟩
  rintro m Γ M' ⟨left, prs, y, rfl, eL, sb, hm, hlt, hl1, hsum, hrem⟩
  cases left with
  | nil =>
    show ∃ ds, M' L = some (.dl ds) ∧ _
    refine ⟨_, eL, M, sb, ?_⟩
    rw [removalGo_nil, List.append_nil] at hrem
    rw [hrem] at p
    exact p
  | cons t0 l0 =>
    refine ⟨fun Γ' M2 => ∃ (y : Option D), Γ' = [some (.tup (hs.map .int)), some (.tup ((natInts (without (t0 :: l0) (stepPair hs (t0 :: l0)))).map .int)), some (.obj (.ref L)), y] ∧ M2 L = some (.dl ((prs ++ [stepPair hs (t0 :: l0)]).map pairN)) ∧ Sub M M2, ?_, ?_⟩
    · rintro Γ' M2 ⟨y, rfl, eL2, sb2⟩
      have hne : t0 :: l0 ≠ [] := List.cons_ne_nil _ _
      generalize t0 :: l0 = left at *
      have hs1 := without_short (hs := hs) hne
      refine ⟨m - 1, by omega, without left (stepPair hs left), prs ++ [stepPair hs left], y, rfl, eL2, sb2, by omega, fun t ht => hlt t (List.mem_filter.mp ht).1, by omega, ?_, ?_⟩
      · rw [List.length_append, List.length_singleton]
        omega
      · rw [hrem, removalGo_step hne hm, List.append_assoc]
        rfl
    · refine ⟨hs, t0 :: l0, rfl, List.cons_ne_nil _ _, hlt, hl1, ?_⟩
      refine ⟨⟨_, _, rfl, eL⟩, _, eL, by rw [List.length_map]; omega, ?_⟩
      refine ⟨t0 :: l0, stepPair hs (t0 :: l0), rfl, hl1, ?_⟩
      refine ⟨_, rfl, ?_, ?_⟩
      · rw [updM_same, List.map_append]
        rfl
      · intro a o h
        have hne2 : a ≠ L := by
          rintro rfl
          rw [nL] at h
          cases h
        rw [updM_ne hne2]
        exact sb a o h
theorem rem_lt {hs : List Int} : ∀ pr ∈ removal hs, pr.1 < hs.length ∧ pr.2 < hs.length := by
  have key : ∀ (n : Nat) (left : List Nat), (∀ t ∈ left, t < hs.length) → ∀ pr ∈ removalGo hs n left, pr.1 < hs.length ∧ pr.2 < hs.length := by
    intro n
    induction n with
    | zero =>
      intro left _ pr h
      cases h
    | succ n ih =>
      intro left hl pr h
      by_cases hne : left = []
      · subst hne
        rw [removalGo_nil] at h
        cases h
      · have e : removalGo hs (n + 1) left = stepPair hs left :: removalGo hs n (without left (stepPair hs left)) := if_neg hne
        rw [e] at h
        rcases List.mem_cons.mp h with rfl | h
        · have lpos : 0 < left.length := List.length_pos_iff.mpr hne
          have hr : rangesOf hs left ≠ [] := by
            intro z
            have := ranges_len hs left
            rw [z] at this
            simp at this
            omega
          obtain ⟨m', g1, g2⟩ := firstMin_spec hr
          have hat : atOf hs left < left.length := by
            have := (List.getElem?_eq_some_iff.mp g1).1
            rw [ranges_len] at this
            exact this
          have a1 := hl _ (getD_mem hat)
          have a2 := hl _ (getD_mem (pre_lt hat))
          unfold stepPair valFirst
          split
          · exact ⟨a2, a1⟩
          · exact ⟨a1, a2⟩
        · exact ih _ (fun t ht => hl t (List.mem_filter.mp ht).1) pr h
  exact key _ _ turns_lt
theorem rem_len (hs : List Int) : (removal hs).length ≤ hs.length := by
  have h1 := swings_len hs
  have h2 := turns_len hs
  have h3 : (swingsOf hs).length = (removal hs).length := by
    rw [(swings_perm hs).length_eq]
    exact List.length_map ..
  omega
theorem sem_swings_of {ds : List D} {M : Mem} {P : DK} (h : g_swings_of ds M P) : ds.length = 1 ∧ w_swings_of (ends P) (ds.map some ++ List.replicate (3 - ds.length) none) M := by
  obtain ⟨hs, rfl, hl, p⟩ := h
  have hrl := rem_len hs
  refine ⟨rfl, hs, rfl, hl, by rw [List.length_map]; omega, rfl, ?_⟩
  refine lcO_map (fun x => match x with
    | .tup [.int a, .int b] => pairD (hgt hs a.toNat, hgt hs b.toNat)
    | _ => .non) (fun x hx => ?_) ?_
  · obtain ⟨pr, hpr, rfl⟩ := List.mem_map.mp hx
    obtain ⟨h1, h2⟩ := rem_lt pr hpr
    exact ⟨_, rfl, fun Q q => ⟨_, atI_getD h1, _, atI_getD h2, small_line (by show 2 ≤ 1000000; decide), q⟩⟩
  · have e : ((removal hs).map pairN).map (fun x => match x with
      | .tup [.int a, .int b] => pairD (hgt hs a.toNat, hgt hs b.toNat)
      | _ => D.non) = (swingsL hs).map pairD := by
      unfold swingsL
      rw [List.map_map, List.map_map]
      refine List.map_congr_left fun pr _ => ?_
      show pairD (hgt hs ((pr.1 : Int).toNat), hgt hs ((pr.2 : Int).toNat)) = pairD (hPair hs pr)
      rw [Int.toNat_natCast, Int.toNat_natCast]
      rfl
    rw [e]
    exact .inr ⟨_, rfl, p⟩
end RS
set_option Elab.async false
set_option linter.all false
set_option maxRecDepth 100000
/-! The program's defs, by data: ranges, the least movement and the fewest turns. -/
namespace RS
open PySem PySem.Spec PyProof.Rows L2
def rngs (hs : List Int) : List Int := (swingsOf hs).map fun s => s.2 - s.1
def leastTurns (hs : List Int) (t : Int) : Int := 2 * (((rngs hs).filter fun r => decide (2 * t < r)).length : Nat)
def g_swing_ranges : DSp := fun ds M P => ∃ hs : List Int, ds = [.tup (hs.map .int)] ∧ hs.length ≤ 1000 ∧ P (.lst ((rsort (rngs hs)).map .int)) M
def g_least_turns : DSp := fun ds M P => ∃ (hs : List Int) (t : Int), ds = [.tup (hs.map .int), .int t] ∧ hs.length ≤ 1000 ∧ t.natAbs < 2 ^ 100 ∧ P (.int (leastTurns hs t)) M
def w_swing_ranges : DS := wRet (wSortR (wLc (wSeqI (wN g_swings_of (wCons (wName 0) (wNil)))) (Tg.tp [Tg.nm 1, Tg.nm 2]) (wYes) (wOp subD (wName 2) (wName 1)) [1, 2]))
def w_least_turns : DS := wRet (wOp mulD (wC (.int 2)) (wN lenD (wCons (wLc (wSeqI (wN g_swing_ranges (wCons (wName 0) (wNil)))) (Tg.nm 2) (wCmpT gtD (wName 2) (wOp mulD (wC (.int 2)) (wName 1))) (wName 2) [2]) (wNil))))
theorem swl_len (hs : List Int) : (swingsOf hs).length ≤ hs.length := by
  have h1 := swings_len hs
  have h2 := turns_len hs
  omega
theorem sem_swing_ranges {ds : List D} {M : Mem} {P : DK} (h : g_swing_ranges ds M P) : ds.length = 1 ∧ w_swing_ranges (ends P) (ds.map some ++ List.replicate (3 - ds.length) none) M := by
  obtain ⟨hs, rfl, hl, p⟩ := h
  have h3 := swl_len hs
  refine ⟨rfl, hs, rfl, hl, by rw [List.length_map]; omega, rfl, ?_⟩
  refine lcO_map (fun x => match x with
    | .tup [.int a, .int b] => .int (b - a)
    | _ => .non) (fun x hx => ?_) ?_
  · obtain ⟨s, _, rfl⟩ := List.mem_map.mp hx
    exact ⟨_, rfl, fun Q q => q⟩
  · have e : ((swingsOf hs).map pairD).map (fun x => match x with
      | .tup [.int a, .int b] => D.int (b - a)
      | _ => .non) = (rngs hs).map .int := by
      unfold rngs
      rw [List.map_map, List.map_map]
      rfl
    rw [e]
    exact ⟨_, rfl, p⟩
theorem rngs_len (hs : List Int) : (rngs hs).length ≤ hs.length := by
  unfold rngs
  rw [List.length_map]
  exact swl_len hs
theorem sem_least_turns {ds : List D} {M : Mem} {P : DK} (h : g_least_turns ds M P) : ds.length = 2 ∧ w_least_turns (ends P) (ds.map some ++ List.replicate (3 - ds.length) none) M := by
  obtain ⟨hs, t, rfl, hl, ht, p⟩ := h
  have h3 := rngs_len hs
  have hlen : (rsort (rngs hs)).length = (rngs hs).length := (rsort_perm _).length_eq
  refine ⟨rfl, hs, rfl, hl, by rw [List.length_map, hlen]; omega, rfl, ?_⟩
  refine lcO_pure (fun x => match x with
    | .int r => decide (2 * t < r)
    | _ => false) (fun x => x) (fun x hx => ?_) ?_
  · obtain ⟨r, hr, rfl⟩ := List.mem_map.mp hx
    exact ⟨_, rfl, fun Q q => ⟨cmw (by decide) (by omega), _, rfl, q⟩, fun _ Q q => q⟩
  · have e : (((rsort (rngs hs)).map D.int).filter (fun x => match x with
      | .int r => decide (2 * t < r)
      | _ => false)).map (fun x => x) = ((rsort (rngs hs)).filter fun r => decide (2 * t < r)).map .int := by
      rw [List.map_id', List.filter_map]
      rfl
    rw [e]
    have e3 : ((rsort (rngs hs)).filter fun r => decide (2 * t < r)).length = ((rngs hs).filter fun r => decide (2 * t < r)).length := ((rsort_perm _).filter _).length_eq
    have e4 : ((((rsort (rngs hs)).filter fun r => decide (2 * t < r)).map D.int).length) = ((rngs hs).filter fun r => decide (2 * t < r)).length := by rw [List.length_map, e3]
    have b : ((rngs hs).filter fun r => decide (2 * t < r)).length ≤ (rngs hs).length := List.length_filter_le _ _
    show _ ∧ P (.int (2 * ((((rsort (rngs hs)).filter fun r => decide (2 * t < r)).map D.int).length : Nat))) M
    rw [e4]
    exact ⟨cmw (by decide) (by omega), p⟩
end RS
set_option Elab.async false
set_option linter.all false
set_option maxRecDepth 100000
namespace RS
open PySem PySem.Spec PyProof.Rows L2
/-! ### the ring in the opposite order has as many passages -/
/-! ### passages, level by level -/
end RS
set_option Elab.async false
set_option linter.all false
set_option maxRecDepth 100000
namespace RS
open PySem PySem.Spec PyProof.Rows L2
/-! ### the swings follow from the numbers of passages -/
theorem extreme : ∀ L : List (Int × Int), L ≠ [] → ∃ x ∈ L, ∀ y ∈ L, x.1 < y.1 ∨ (x.1 = y.1 ∧ y.2 ≤ x.2)
  | [], h => absurd rfl h
  | [a], _ => ⟨a, List.mem_cons_self, fun y hy => by
    rw [List.mem_singleton.mp hy]
    exact .inr ⟨rfl, Int.le_refl _⟩⟩
  | a :: b :: L, _ => by
    obtain ⟨x, hx, h⟩ := extreme (b :: L) (List.cons_ne_nil _ _)
    by_cases c : a.1 < x.1 ∨ (a.1 = x.1 ∧ x.2 ≤ a.2)
    · refine ⟨a, List.mem_cons_self, fun y hy => ?_⟩
      rcases List.mem_cons.mp hy with rfl | hy
      · exact .inr ⟨rfl, Int.le_refl _⟩
      · have := h y hy
        omega
    · refine ⟨x, List.mem_cons_of_mem _ hx, fun y hy => ?_⟩
      rcases List.mem_cons.mp hy with rfl | hy
      · omega
      · exact h y hy
theorem swCount_mem {sw : List (Int × Int)} {x : Int × Int} (h : x ∈ sw) : 1 ≤ swCount sw x.1 x.2 := by
  rw [← swCount_filter]
  refine List.length_pos_of_mem (a := x) (List.mem_filter.mpr ⟨h, ?_⟩)
  rw [decide_eq_true (Int.le_refl _), decide_eq_true (Int.le_refl _)]
  rfl
theorem swCount_some {sw : List (Int × Int)} {lo hi : Int} (h : 1 ≤ swCount sw lo hi) : ∃ y ∈ sw, y.1 ≤ lo ∧ hi ≤ y.2 := by
  rw [← swCount_filter] at h
  obtain ⟨y, hy⟩ := List.exists_mem_of_length_pos h
  obtain ⟨a, b⟩ := List.mem_filter.mp hy
  obtain ⟨b1, b2⟩ := Bool.and_eq_true_iff.mp b
  exact ⟨y, a, of_decide_eq_true b1, of_decide_eq_true b2⟩
theorem sw_both {T : List Int} {s1 s2 : List (Int × Int)} {x : Int × Int} (hx : x ∈ s1) (hT : x.1 ∈ T ∧ x.2 ∈ T ∧ x.1 < x.2)
    (hc : ∀ lo ∈ T, ∀ hi ∈ T, lo < hi → swCount s1 lo hi = swCount s2 lo hi) (hm : ∀ y ∈ s2, x.1 < y.1 ∨ (x.1 = y.1 ∧ y.2 ≤ x.2)) : x ∈ s2 := by
  have h1 := swCount_mem hx
  rw [hc _ hT.1 _ hT.2.1 hT.2.2] at h1
  obtain ⟨y, hy, g1, g2⟩ := swCount_some h1
  have := hm y hy
  have e : y = x := Prod.ext (by omega) (by omega)
  rw [← e]
  exact hy
theorem sw_unique {T : List Int} : ∀ (n : Nat) (s1 s2 : List (Int × Int)), s1.length + s2.length ≤ n → (∀ s ∈ s1, s.1 ∈ T ∧ s.2 ∈ T ∧ s.1 < s.2) → (∀ s ∈ s2, s.1 ∈ T ∧ s.2 ∈ T ∧ s.1 < s.2) →
    (∀ lo ∈ T, ∀ hi ∈ T, lo < hi → swCount s1 lo hi = swCount s2 lo hi) → s1.Perm s2
  | 0, s1, s2, hn, _, _, _ => by
    have e1 : s1 = [] := List.eq_nil_of_length_eq_zero (by omega)
    have e2 : s2 = [] := List.eq_nil_of_length_eq_zero (by omega)
    rw [e1, e2]
  | n + 1, s1, s2, hn, h1, h2, hc => by
    by_cases hne : s1 ++ s2 = []
    · obtain ⟨e1, e2⟩ := List.append_eq_nil_iff.mp hne
      rw [e1, e2]
    · obtain ⟨x, hx, hm⟩ := extreme _ hne
      have m1 : ∀ y ∈ s1, x.1 < y.1 ∨ (x.1 = y.1 ∧ y.2 ≤ x.2) := fun y hy => hm y (List.mem_append_left _ hy)
      have m2 : ∀ y ∈ s2, x.1 < y.1 ∨ (x.1 = y.1 ∧ y.2 ≤ x.2) := fun y hy => hm y (List.mem_append_right _ hy)
      have both : x ∈ s1 ∧ x ∈ s2 := by
        rcases List.mem_append.mp hx with hx | hx
        · exact ⟨hx, sw_both hx (h1 x hx) hc m2⟩
        · exact ⟨sw_both hx (h2 x hx) (fun lo l hi r hlt => (hc lo l hi r hlt).symm) m1, hx⟩
      have p1 := List.perm_cons_erase both.1
      have p2 := List.perm_cons_erase both.2
      have l1 := p1.length_eq
      have l2 := p2.length_eq
      rw [List.length_cons] at l1 l2
      have ih := sw_unique n (s1.erase x) (s2.erase x) (by omega) (fun s hs => h1 s (List.mem_of_mem_erase hs)) (fun s hs => h2 s (List.mem_of_mem_erase hs)) ?_
      · exact (p1.trans (ih.cons x)).trans p2.symm
      · intro lo hlo hi hhi hlt
        have c := hc lo hlo hi hhi hlt
        rw [swCount_perm p1, swCount_perm p2] at c
        have e : ∀ l : List (Int × Int), swCount (x :: l) lo hi = inSw lo hi x.1 x.2 + swCount l lo hi := fun l => by
          unfold swCount
          rw [List.map_cons, List.sum_cons]
        rw [e, e] at c
        omega
end RS
set_option Elab.async false
set_option linter.all false
set_option maxRecDepth 100000
/-! The program's defs, by data: heights, reflected, scaled, repeated, are_alike; draws and rings of the laws k08 to k18. -/
namespace RS
open PySem PySem.Spec PyProof.Rows L2
def isNum : D → Bool
  | .int _ => true
  | _ => false
def isHt : D → Bool
  | .int i => decide (-1000000000 ≤ i ∧ i ≤ 1000000000)
  | _ => false
def g_is_number : DSp := fun ds M P => ∃ d, ds = [d] ∧ d.known = true ∧ P (.bl (isNum d)) M
def g_is_height : DSp := fun ds M P => ∃ d, ds = [d] ∧ d.known = true ∧ P (.bl (isHt d)) M
def w_is_number : DS := wRet (wAndV (wN isinstanceD (wCons (wName 0) (wCons (wC (.obj (.ty "int"))) (wNil)))) (wNotV (wN isinstanceD (wCons (wName 0) (wCons (wC (.obj (.ty "bool"))) (wNil))))))
def w_is_height : DS := wRet (wAndV (wN g_is_number (wCons (wName 0) (wNil))) (wChainE leD leD (wUn negD (wC (.int 1000000000))) (wName 0) (wC (.int 1000000000))))
theorem sem_is_number {ds : List D} {M : Mem} {P : DK} (h : g_is_number ds M P) : ds.length = 1 ∧ w_is_number (ends P) (ds.map some ++ List.replicate (1 - ds.length) none) M := by
  obtain ⟨d, rfl, hk, p⟩ := h
  refine ⟨rfl, hk, by decide, ?_⟩
  cases d with
  | obj v => cases hk
  | int i => exact ⟨rfl, by decide, p⟩
  | bl b => exact ⟨rfl, by decide, p⟩
  | non => exact p
  | str x => exact p
  | tup xs => exact p
  | lst xs => exact p
  | dct xs => exact p
  | tpf xs => cases hk
theorem sem_is_height {ds : List D} {M : Mem} {P : DK} (h : g_is_height ds M P) : ds.length = 1 ∧ w_is_height (ends P) (ds.map some ++ List.replicate (1 - ds.length) none) M := by
  obtain ⟨d, rfl, hk, p⟩ := h
  refine ⟨rfl, d, rfl, hk, ?_⟩
  cases d with
  | obj v => cases hk
  | int i =>
    show ∃ b, D.bl (decide (-1000000000 ≤ i)) = .bl b ∧ _
    refine ⟨_, rfl, ite2 (fun e => ?_) (fun e => ?_)⟩
    · have h1 : -1000000000 ≤ i := of_decide_eq_true e
      show P (.bl (decide (i ≤ 1000000000))) M
      have : isHt (.int i) = decide (i ≤ 1000000000) := by
        show decide (-1000000000 ≤ i ∧ i ≤ 1000000000) = _
        simp only [h1, true_and]
      rw [this] at p
      exact p
    · have h1 : ¬ -1000000000 ≤ i := fun z => e (decide_eq_true z)
      have : isHt (.int i) = false := by
        show decide (-1000000000 ≤ i ∧ i ≤ 1000000000) = _
        simp only [h1, false_and, decide_false]
      rw [this] at p
      exact p
  | bl b => exact p
  | non => exact p
  | str x => exact p
  | tup xs => exact p
  | lst xs => exact p
  | dct xs => exact p
  | tpf xs => cases hk
theorem isHt_of {h : Int} (hh : Ht h) : isHt (.int h) = true := decide_eq_true hh
/-! ### equality of tuples of pairs -/
/-! ### draws -/
end RS
set_option Elab.async false
set_option linter.all false
set_option maxRecDepth 100000
namespace RS
open PySem PySem.Spec PyProof.Rows L2
/-! ### the numbers of passages fix the swings -/
theorem sw_perm {A B : List (Int × Int)} (hA : ∀ s ∈ A, s.1 < s.2) (hB : ∀ s ∈ B, s.1 < s.2) (h : ∀ lo hi : Int, lo < hi → swCount A lo hi = swCount B lo hi) : A.Perm B := by
  refine sw_unique (T := (A ++ B).flatMap fun s => [s.1, s.2]) _ A B (Nat.le_refl _) (fun s hs => ⟨?_, ?_, hA s hs⟩) (fun s hs => ⟨?_, ?_, hB s hs⟩) fun lo _ hi _ hl => h lo hi hl
  · exact List.mem_flatMap.mpr ⟨s, List.mem_append_left _ hs, by simp⟩
  · exact List.mem_flatMap.mpr ⟨s, List.mem_append_left _ hs, by simp⟩
  · exact List.mem_flatMap.mpr ⟨s, List.mem_append_right _ hs, by simp⟩
  · exact List.mem_flatMap.mpr ⟨s, List.mem_append_right _ hs, by simp⟩
theorem sw_lt {hs : List Int} : ∀ s ∈ swingsOf hs, s.1 < s.2 := fun s h => (swings_mem s h).2.2
/-- a sorted list of swings with the numbers of a ring is the ring's -/
theorem swings_eq {hs : List Int} {B : List (Int × Int)} (hB : ∀ s ∈ B, s.1 < s.2) (sB : B.Pairwise fun a b => lexLe a b = true) (h : ∀ lo hi : Int, lo < hi → cyc (marks hs lo hi) = swCount B lo hi) : swingsOf hs = B :=
  sorted_one (sw_perm sw_lt hB fun lo hi hl => by rw [swings_count hl, h lo hi hl]) (swings_sorted hs) sB
theorem swings_eq_sort {hs : List Int} {B : List (Int × Int)} (hB : ∀ s ∈ B, s.1 < s.2) (h : ∀ lo hi : Int, lo < hi → cyc (marks hs lo hi) = swCount B lo hi) : swingsOf hs = B.mergeSort lexLe :=
  swings_eq (fun s hs => hB s ((List.mergeSort_perm B lexLe).mem_iff.mp hs)) (List.pairwise_mergeSort RS.lex_trans RS.lex_total _) fun lo hi hl => by rw [h lo hi hl, swCount_perm (List.mergeSort_perm B lexLe)]
/-! ### reflected -/
/-! ### scaled -/
/-! ### every place twice -/
theorem rise_self (b : Bool) : rise b b = 0 := by cases b <;> rfl
/-! ### several times round -/
/-! ### data is equal to itself -/
mutual
theorem eqvD_self : ∀ d : D, d.ok = true → PyData.eqv d.py d.py = true
  | .non, _ => by simp [D.py, PyData.eqv]
  | .bl b, _ => by cases b <;> simp [D.py, PyData.eqv]
  | .int i, _ => by simp [D.py, PyData.eqv]
  | .str x, _ => by simp [D.py, PyData.eqv]
  | .tup ds, h => by
    simp only [D.py, PyData.eqv]
    exact eqvD_selfs ds (by simpa [D.ok] using h)
  | .lst ds, h => by
    simp only [D.py, PyData.eqv]
    exact eqvD_selfs ds (by simpa [D.ok] using h)
  | .obj v, h => by simp [D.ok] at h
  | .dct v, h => by simp [D.ok] at h
  | .tpf v, h => by simp [D.ok] at h
theorem eqvD_selfs : ∀ ds : List D, D.oks ds = true → PyData.eqvAll (D.pys ds) (D.pys ds) = true
  | [], _ => by simp [D.pys, PyData.eqvAll]
  | d :: ds, h => by
    simp only [D.oks, Bool.and_eq_true] at h
    simp only [D.pys, PyData.eqvAll, Bool.and_eq_true]
    exact ⟨eqvD_self d h.1, eqvD_selfs ds h.2⟩
end
end RS
set_option Elab.async false
set_option linter.all false
set_option maxRecDepth 100000
/-! A second kind of deck: cells, a number, rests. -/
namespace RS
open PySem PySem.Spec PyProof.Rows L2
section
variable {X : Cx} {Vx : VX}
/-- a list of one's own as a value -/
def wObj (w : DOwn) : DW := fun Γ M P => w Γ M fun ds M1 => ∀ L, M1 L = none → P (.obj (.ref L)) (updM M1 L (.dl ds))
theorem de_own {e : Expr} {w : DOwn} (h : DEo X e w) : DE X e (wObj w) := PE.imp h fun σ H Q q => by
  obtain ⟨Γ, W, P, rfl, c, w, k⟩ := q
  refine ⟨Γ, W, _, rfl, c, w, fun ds W1 L vs w1 f1 k1 n0 eL nN mN r1 => ?_⟩
  have f2 : Fr W ⟨updM W1.M L (.dl ds), W1.N, W1.H⟩ := fun a o h1 h2 => by
    have hne : a ≠ L := by
      rintro rfl
      rw [n0 h1] at h2
      cases h2
    obtain ⟨j1, j2, j3⟩ := f1 a o h1 h2
    exact ⟨j1, by show updM W1.M L _ a = none; rw [updM_ne hne]; exact j2, j3⟩
  have cr : Carry X.K W1 ⟨updM W1.M L (.dl ds), W1.N, W1.H⟩ := ⟨fun h n => ⟨h, n⟩⟩
  have k2 : Ok X.K ⟨updM W1.M L (.dl ds), W1.N, W1.H⟩ := ⟨fun a o e => by
    by_cases ha : a = L
    · subst ha
      have e' : updM W1.M a (.dl ds) a = some o := e
      rw [updM_same] at e'
      cases e'
      exact ⟨nN, vs, eL, Rvs.carry cr _ _ r1⟩
    · have e' : updM W1.M L (.dl ds) a = some o := e
      rw [updM_ne ha] at e'
      obtain ⟨j1, j2⟩ := k1.m a o e'
      exact ⟨j1, j2.carry cr rfl⟩⟩
  exact k _ ⟨updM W1.M L (.dl ds), W1.N, W1.H⟩ _ (w1 L mN) f2 k2 (.obj _)
end
structure DeckN (M : Mem) (d l : Addr) (n : Int) : Prop where
  ex : ∃ cs rs : List Int, M d = some (.dl [.lst (cs.map .int), .int n, .obj (.ref l)]) ∧ M l = some (.dl (rs.map .int)) ∧ rs.length = cs.length ∧ 1 ≤ cs.length ∧ cs.length ≤ 63 ∧ ∀ x ∈ rs, 0 ≤ x
  ne : l ≠ d
  n0 : 0 ≤ n
theorem DeckN.upd {M : Mem} {d l a : Addr} {n : Int} {o : MO} (D : DeckN M d l n) (h1 : a ≠ d) (h2 : a ≠ l) : DeckN (updM M a o) d l n := by
  obtain ⟨cs, rs, c1, c2, c3⟩ := D.ex
  exact ⟨⟨cs, rs, by rw [updM_ne h1.symm]; exact c1, by rw [updM_ne h2.symm]; exact c2, c3⟩, D.ne, D.n0⟩
theorem DeckN.free {M : Mem} {d l a : Addr} {n : Int} (D : DeckN M d l n) (h : M a = none) : a ≠ d ∧ a ≠ l := by
  obtain ⟨cs, rs, c1, c2, _⟩ := D.ex
  constructor
  · rintro rfl
    rw [c1] at h
    cases h
  · rintro rfl
    rw [c2] at h
    cases h
theorem KeepM.upd {d l a : Addr} {M M1 : Mem} {o : MO} (k : KeepM d l M M1) (n : M a = none) : KeepM d l M (updM M1 a o) := fun b u h1 h2 h => by
  have hne : b ≠ a := by
    rintro rfl
    rw [n] at h
    cases h
  rw [updM_ne hne]
  exact k b u h1 h2 h
end RS
set_option Elab.async false
set_option linter.all false
set_option maxRecDepth 100000
/-! Rings of the second kind of deck. -/
namespace RS
open PySem PySem.Spec PyProof.Rows L2
theorem rngD_at {n i : Nat} {x : D} (h : (rngD 0 n)[i]? = some x) : i < n ∧ x = .int (i : Nat) := by
  have hi : i < n := by
    have := (List.getElem?_eq_some_iff.mp h).1
    rwa [rngD_len] at this
  rw [rngD_get hi] at h
  cases h
  exact ⟨hi, by rw [Int.zero_add]⟩
end RS
set_option Elab.async false
set_option linter.all false
set_option maxRecDepth 100000
/-! The laws' own turns and swings. -/
namespace RS
open PySem PySem.Spec PyProof.Rows L2
end RS
set_option Elab.async false
set_option linter.all false
set_option maxRecDepth 100000
/-! The laws' own turns and swings, by data. -/
namespace RS
open PySem PySem.Spec PyProof.Rows L2
end RS
set_option Elab.async false
set_option linter.all false
set_option maxRecDepth 100000
/-! The laws' own swings and what is left of them, by data. -/
namespace RS
open PySem PySem.Spec PyProof.Rows L2
end RS
set_option Elab.async false
set_option linter.all false
set_option maxRecDepth 100000
/-! What is left of the swings; the beginning of a law with the second kind of deck. -/
namespace RS
open PySem PySem.Spec PyProof.Rows L2
end RS
set_option Elab.async false
set_option linter.all false
set_option maxRecDepth 100000
namespace RS
open PySem PySem.Spec PyProof.Rows L2
/-! ### lazy rings -/
def clampI (t h x : Int) : Int := max (h - t) (min (h + t) x)
def lzPath (t : Int) : Int → List Int → List Int
  | _, [] => []
  | x, h :: r => clampI t h x :: lzPath t (clampI t h x) r
def lzEnd (t : Int) : Int → List Int → Int
  | x, [] => x
  | x, h :: r => lzEnd t (clampI t h x) r
def lazyOf (hs : List Int) (t : Int) : List Int :=
  match hs with
  | [] => []
  | h :: r => lzEnd t h (r ++ [h]) :: lzPath t (lzEnd t h (r ++ [h])) r
theorem lzEnd_app (t : Int) : ∀ (a b : List Int) (x : Int), lzEnd t x (a ++ b) = lzEnd t (lzEnd t x a) b
  | [], _, _ => rfl
  | h :: a, b, x => lzEnd_app t a b (clampI t h x)
theorem lzPath_app (t : Int) : ∀ (a b : List Int) (x : Int), lzPath t x (a ++ b) = lzPath t x a ++ lzPath t (lzEnd t x a) b
  | [], _, _ => rfl
  | h :: a, b, x => by
    show clampI t h x :: lzPath t (clampI t h x) (a ++ b) = clampI t h x :: (lzPath t (clampI t h x) a ++ _)
    rw [lzPath_app t a b (clampI t h x)]
    rfl
theorem lz_clamp {t : Int} (ht : 0 ≤ t) : ∀ (r : List Int) (h : Int), ∃ lo hi : Int, lo ≤ hi ∧ ∀ x, lzEnd t x (h :: r) = max lo (min hi x)
  | [], h => ⟨h - t, h + t, by omega, fun x => rfl⟩
  | g :: r, h => by
    obtain ⟨lo, hi, h1, h2⟩ := lz_clamp ht r g
    refine ⟨max lo (min hi (h - t)), max lo (min hi (h + t)), by omega, fun x => ?_⟩
    show lzEnd t (clampI t h x) (g :: r) = _
    rw [h2]
    unfold clampI
    omega
theorem lz_idem {t : Int} (ht : 0 ≤ t) (hs : List Int) (x : Int) : lzEnd t (lzEnd t x hs) hs = lzEnd t x hs := by
  cases hs with
  | nil => rfl
  | cons h r =>
    obtain ⟨lo, hi, h1, h2⟩ := lz_clamp ht r h
    rw [h2, h2]
    omega
theorem lz_mcons (h : Int) (r : List Int) (lo hi : Int) : marks (h :: r) lo hi = (if outP lo hi h = true then [decide (hi ≤ h)] else []) ++ marks r lo hi := by
  unfold marks
  rw [List.filter_cons]
  split <;> rfl
theorem lz_ohi {lo hi x : Int} (h : hi ≤ x) : outP lo hi x = true := by
  unfold outP
  rw [decide_eq_true h]
  rfl
theorem lz_olo {lo hi x : Int} (h : x ≤ lo) : outP lo hi x = true := by
  unfold outP
  rw [decide_eq_true h, Bool.or_true]
theorem lz_ono {lo hi x : Int} (h1 : ¬ hi ≤ x) (h2 : ¬ x ≤ lo) : outP lo hi x = false := by
  unfold outP
  rw [decide_eq_false h1, decide_eq_false h2]
  rfl
/-- what the walk of the lazy ring tells between two thresholds is what the ring tells between thresholds that are farther apart -/
theorem lz_marks {t a b : Int} (ht : 0 ≤ t) (hab : a < b) : ∀ (hs : List Int) (x : Int) (e : Bool), (b ≤ x → e = true) → (x ≤ a → e = false) →
    adj e (marks (lzPath t x hs) a b) = adj e (marks hs (a - t) (b + t)) ∧ endOf e (marks (lzPath t x hs) a b) = endOf e (marks hs (a - t) (b + t)) ∧
    (b ≤ lzEnd t x hs → endOf e (marks hs (a - t) (b + t)) = true) ∧ (lzEnd t x hs ≤ a → endOf e (marks hs (a - t) (b + t)) = false)
  | [], x, e, h1, h2 => ⟨rfl, rfl, h1, h2⟩
  | h :: r, x, e, h1, h2 => by
    have hc : clampI t h x = max (h - t) (min (h + t) x) := rfl
    have key : ∀ e' : Bool, (b ≤ clampI t h x → e' = true) → (clampI t h x ≤ a → e' = false) → _ := fun e' p q => lz_marks ht hab r (clampI t h x) e' p q
    show adj e (marks (clampI t h x :: lzPath t (clampI t h x) r) a b) = _ ∧ endOf e (marks (clampI t h x :: lzPath t (clampI t h x) r) a b) = _ ∧ (b ≤ lzEnd t (clampI t h x) r → _) ∧ (lzEnd t (clampI t h x) r ≤ a → _)
    rw [lz_mcons h r, lz_mcons (clampI t h x)]
    by_cases c1 : b + t ≤ h
    · have d1 : b ≤ clampI t h x := by omega
      rw [lz_ohi c1, lz_ohi d1, decide_eq_true c1, decide_eq_true d1]
      obtain ⟨k1, k2, k3, k4⟩ := key true (fun _ => rfl) (fun z => absurd z (by omega))
      exact ⟨congrArg (rise e true + ·) k1, k2, k3, k4⟩
    · by_cases c2 : h ≤ a - t
      · have d2 : clampI t h x ≤ a := by omega
        rw [lz_olo c2, lz_olo d2, decide_eq_false (by omega : ¬ b + t ≤ h), decide_eq_false (by omega : ¬ b ≤ clampI t h x)]
        obtain ⟨k1, k2, k3, k4⟩ := key false (fun z => absurd z (by omega)) (fun _ => rfl)
        exact ⟨congrArg (rise e false + ·) k1, k2, k3, k4⟩
      · rw [lz_ono c1 c2]
        by_cases c3 : b ≤ clampI t h x
        · have e1 : e = true := h1 (by omega)
          subst e1
          rw [lz_ohi c3, decide_eq_true c3]
          obtain ⟨k1, k2, k3, k4⟩ := key true (fun _ => rfl) (fun z => absurd z (by omega))
          refine ⟨?_, k2, k3, k4⟩
          show rise true true + _ = _
          rw [rise_self, Nat.zero_add]
          exact k1
        · by_cases c4 : clampI t h x ≤ a
          · have e1 : e = false := h2 (by omega)
            subst e1
            rw [lz_olo c4, decide_eq_false c3]
            obtain ⟨k1, k2, k3, k4⟩ := key false (fun z => absurd z (by omega)) (fun _ => rfl)
            refine ⟨?_, k2, k3, k4⟩
            show rise false false + _ = _
            rw [rise_self, Nat.zero_add]
            exact k1
          · rw [lz_ono c3 c4]
            exact key e (fun z => absurd z c3) (fun z => absurd z c4)
theorem cyc_end (ms : List Bool) (e : Bool) : cyc ms = adj (endOf e ms) ms := by
  cases ms with
  | nil => rfl
  | cons m r =>
    show adj m (r ++ [m]) = rise (endOf m r) m + adj m r
    rw [adj_app]
    show adj m r + (rise (endOf m r) m + 0) = _
    omega
theorem lz_cyc {t a b x : Int} (ht : 0 ≤ t) (hab : a < b) {hs : List Int} (hx : lzEnd t x hs = x) : cyc (marks (lzPath t x hs) a b) = cyc (marks hs (a - t) (b + t)) := by
  obtain ⟨k1, k2, k3, k4⟩ := lz_marks ht hab hs x (decide (b ≤ x)) (fun z => decide_eq_true z) (fun z => decide_eq_false (by omega))
  rw [hx] at k3 k4
  obtain ⟨j1, _, _, _⟩ := lz_marks ht hab hs x _ k3 k4
  rw [cyc_end _ (decide (b ≤ x)), k2, j1, ← cyc_end]
/-- the lazy ring closes on itself -/
theorem lazy_cyc {hs : List Int} {t a b : Int} (ht : 0 ≤ t) (hab : a < b) : cyc (marks (lazyOf hs t) a b) = cyc (marks hs (a - t) (b + t)) := by
  cases hs with
  | nil => rfl
  | cons h r =>
    have hx := lz_idem ht (r ++ [h]) h
    have key := lz_cyc (a := a) (b := b) ht hab hx
    have e1 : lzPath t (lzEnd t h (r ++ [h])) (r ++ [h]) = lzPath t (lzEnd t h (r ++ [h])) r ++ [lzEnd t h (r ++ [h])] := by
      rw [lzPath_app]
      refine congrArg (lzPath t (lzEnd t h (r ++ [h])) r ++ ·) ?_
      show [clampI t h (lzEnd t (lzEnd t h (r ++ [h])) r)] = _
      rw [lzEnd_app] at hx
      exact congrArg (fun z => [z]) hx
    rw [e1, marks_app, cyc_rot, ← marks_app, marks_app r, cyc_rot, ← marks_app] at key
    exact key
def shrinkS (t : Int) (s : Int × Int) : Int × Int := (s.1 + t, s.2 - t)
def shrunk (sw : List (Int × Int)) (t : Int) : List (Int × Int) := (sw.filter fun s => decide (s.2 - s.1 > 2 * t)).map (shrinkS t)
theorem shrunk_count {t lo hi : Int} (h : lo < hi) : ∀ sw : List (Int × Int), swCount (shrunk sw t) lo hi = swCount sw (lo - t) (hi + t)
  | [] => rfl
  | s :: sw => by
    have ih := shrunk_count (t := t) h sw
    have e2 : swCount (s :: sw) (lo - t) (hi + t) = inSw (lo - t) (hi + t) s.1 s.2 + swCount sw (lo - t) (hi + t) := rfl
    rw [e2, ← ih]
    unfold shrunk
    rw [List.filter_cons]
    split
    · show inSw lo hi (s.1 + t) (s.2 - t) + _ = _
      have : inSw lo hi (s.1 + t) (s.2 - t) = inSw (lo - t) (hi + t) s.1 s.2 := by
        unfold inSw
        by_cases c : s.1 ≤ lo - t ∧ hi + t ≤ s.2
        · rw [if_pos c, if_pos (by omega)]
        · rw [if_neg c, if_neg (by omega)]
      rw [this]
      rfl
    · rename_i c
      have c : ¬ s.2 - s.1 > 2 * t := fun z => c (decide_eq_true z)
      have : inSw (lo - t) (hi + t) s.1 s.2 = 0 := by
        unfold inSw
        rw [if_neg (by omega)]
      rw [this, Nat.zero_add]
theorem shrunk_lt {sw : List (Int × Int)} {t : Int} : ∀ s ∈ shrunk sw t, s.1 < s.2 := by
  intro s h
  obtain ⟨u, h1, rfl⟩ := List.mem_map.mp h
  have := of_decide_eq_true (List.mem_filter.mp h1).2
  show u.1 + t < u.2 - t
  omega
theorem sw_lazy (hs : List Int) {t : Int} (ht : 0 ≤ t) : swingsOf (lazyOf hs t) = (shrunk (swingsOf hs) t).mergeSort lexLe :=
  swings_eq_sort shrunk_lt fun lo hi hl => by rw [lazy_cyc ht hl, shrunk_count hl, swings_count (by omega)]
/-! heights -/
theorem clamp0 (h x : Int) : clampI 0 h x = h := by
  unfold clampI
  omega
theorem lzPath0 : ∀ (hs : List Int) (x : Int), lzPath 0 x hs = hs
  | [], _ => rfl
  | h :: r, x => by
    show clampI 0 h x :: lzPath 0 (clampI 0 h x) r = _
    rw [lzPath0 r, clamp0]
theorem lazy0 (hs : List Int) : lazyOf hs 0 = hs := by
  cases hs with
  | nil => rfl
  | cons h r =>
    show lzEnd 0 h (r ++ [h]) :: lzPath 0 _ r = _
    rw [lzPath0, lzEnd_app]
    show clampI 0 h _ :: r = _
    rw [clamp0]
/-! least movement, fewest turns -/
theorem shrunk_len (sw : List (Int × Int)) (t : Int) : (shrunk sw t).length = ((sw.map fun s => s.2 - s.1).filter fun r => decide (2 * t < r)).length := by
  unfold shrunk
  rw [List.length_map, List.filter_map, List.length_map]
  rfl
theorem lazy_turns (hs : List Int) {t : Int} (ht : 0 ≤ t) : (((turnsOf (lazyOf hs t)).length : Nat) : Int) = leastTurns hs t := by
  rw [← swings_len, sw_lazy hs ht, List.length_mergeSort, shrunk_len]
  unfold leastTurns rngs
  omega
theorem least_turns0 (hs : List Int) : leastTurns hs 0 = (((turnsOf hs).length : Nat) : Int) := by
  have := lazy_turns hs (t := 0) (by decide)
  rw [lazy0] at this
  exact this.symm
end RS
set_option Elab.async false
set_option linter.all false
set_option maxRecDepth 100000
/-! More rules of the data layer: is True, a slice of a list of one's own, enumerate from a number on. -/
namespace RS
open PySem PySem.Spec PyProof.Rows L2
/-! ### enumerate(list, start=k) -/
end RS
set_option Elab.async false
set_option linter.all false
set_option maxRecDepth 100000
/-! Tolerances, lazy rings: what the laws draw and what the program and the laws make of it. -/
namespace RS
open PySem PySem.Spec PyProof.Rows L2
def g_ring_error : DSp := fun ds M P => ∃ hs : List Int, ds = [.tup (hs.map .int)] ∧ 1 ≤ hs.length ∧ hs.length ≤ 24 ∧ (∀ h ∈ hs, Ht h) ∧ P .non M
def w_ring_error_b0 : DS := wIf (wNotT (wTru (wN g_is_height (wCons (wName 2) (wNil))))) (wRet (wN gTupN (wCons (wName 1) (wCons (wC (.str (Str.ofString "height"))) (wNil))))) (wNext)
def w_ring_error : DS := wSeq (wIf (wNotT (wTru (wN isinstanceD (wCons (wName 0) (wCons (wC (.obj (.ty "tuple"))) (wNil)))))) (wRet (wN gTupN (wCons (wC .non) (wCons (wC (.str (Str.ofString "tuple"))) (wNil))))) (wNext)) (wSeq (wIf (wNotT (wChain leD leD (wC (.int 1)) (wN lenD (wCons (wName 0) (wNil))) (wC (.int 24)))) (wRet (wN gTupN (wCons (wC .non) (wCons (wC (.str (Str.ofString "length"))) (wNil))))) (wNext)) (wSeq (wFor (wEnum (wCons (wName 0) (wNil))) (Tg.tp [Tg.nm 1, Tg.nm 2]) (w_ring_error_b0)) (wRet (wC .non))))
theorem sem_ring_error {ds : List D} {M : Mem} {P : DK} (h : g_ring_error ds M P) : ds.length = 1 ∧ w_ring_error (ends P) (ds.map some ++ List.replicate (3 - ds.length) none) M := by
  obtain ⟨hs, rfl, h1, hl, hh, p⟩ := h
  have hlm : (hs.map D.int).length = hs.length := List.length_map ..
  refine ⟨rfl, rfl, by decide, ?_⟩
  have a1 : (1 : Int) ≤ (((hs.map D.int).length : Nat) : Int) := by rw [hlm]; omega
  have a2 : (((hs.map D.int).length : Nat) : Int) ≤ 24 := by rw [hlm]; omega
  have fin : wFor (wEnum (wCons (wName 0) (wNil))) (Tg.tp [Tg.nm 1, Tg.nm 2]) (w_ring_error_b0) ⟨wRet (wC .non) (ends P), P, fun _ _ => False, fun _ _ => False, fun _ _ _ _ => False⟩ [some (.tup (hs.map .int)), none, none] M := by
    refine forD_ind (fun i Γ M' => ∃ y1 y2 : Option D, Γ = [some (.tup (hs.map .int)), y1, y2] ∧ M' = M) ?_ ?_ ⟨_, _, rfl, rfl⟩
    · rintro i d Γ M' hx ⟨y1, y2, rfl, rfl⟩ nx hnx
      obtain ⟨k, x, hk, hkx, rfl⟩ := enum_mem (List.mem_of_getElem? hx)
      refine ⟨_, rfl, _, rfl, rfl, ?_⟩
      have := isHt_of (hh x (List.mem_of_getElem? hkx))
      refine ite2 (fun e => ?_) (fun _ => hnx _ _ ⟨_, _, rfl, rfl⟩)
      rw [this] at e
      cases e
    · rintro Γ M' ⟨y1, y2, rfl, rfl⟩
      exact p
  refine ⟨_, rfl, ite2 (fun _ => ⟨_, rfl, ite2 (fun e => ?_) (fun _ => fin)⟩) (fun e => absurd (decide_eq_true a1) e)⟩
  rw [decide_eq_true a2] at e
  cases e
end RS
set_option Elab.async false
set_option linter.all false
set_option maxRecDepth 100000
/-! Sums of what is left of the swings. -/
namespace RS
open PySem PySem.Spec PyProof.Rows L2
end RS
set_option Elab.async false
set_option linter.all false
set_option maxRecDepth 100000
/-! The least tolerance for so many turns, for so much movement. -/
namespace RS
open PySem PySem.Spec PyProof.Rows L2
end RS
set_option Elab.async false
set_option linter.all false
set_option maxRecDepth 100000
/-! Tolerances one after another. -/
namespace RS
open PySem PySem.Spec PyProof.Rows L2
theorem filt_mono {a b : Int} (h : a ≤ b) : ∀ l : List Int, (l.filter fun r => decide (2 * b < r)).length ≤ (l.filter fun r => decide (2 * a < r)).length
  | [] => Nat.le_refl _
  | r :: l => by
    have ih := filt_mono h l
    rw [List.filter_cons, List.filter_cons]
    by_cases c : 2 * b < r
    · rw [if_pos (decide_eq_true c), if_pos (decide_eq_true (by omega))]
      exact Nat.succ_le_succ ih
    · rw [if_neg (fun z => c (of_decide_eq_true z))]
      split
      · exact Nat.le_succ_of_le ih
      · exact ih
theorem turns_mono (hs : List Int) {a b : Int} (h : a ≤ b) : leastTurns hs b ≤ leastTurns hs a := by
  have := filt_mono h (rngs hs)
  unfold leastTurns
  omega
end RS
set_option Elab.async false
set_option linter.all false
set_option maxRecDepth 100000
/-! max of four, min of three numbers -/
namespace RS
open PySem PySem.Spec PyProof.Rows L2
end RS
set_option Elab.async false
set_option linter.all false
set_option maxRecDepth 100000
/-! Scaled rings, flat rings, least tolerances. -/
namespace RS
open PySem PySem.Spec PyProof.Rows L2
end RS
set_option Elab.async false
set_option linter.all false
set_option maxRecDepth 100000
/-! A comprehension with two fors. -/
namespace RS
open PySem PySem.Spec PyProof.Rows L2
theorem Cn.carry {K : PySem.W.Frag} {Γ : DG} {W W' : Wd} {σ : L2.St} (c : Cn K Γ W σ) (f : Carry K W W') (k : Ok K W') : Cn K Γ W' σ :=
  ⟨k, c.len, fun i d h => by
    obtain ⟨v, h1, h2⟩ := c.env i d h
    exact ⟨v, h1, Rv.carry f d v h2⟩⟩
end RS
set_option Elab.async false
set_option linter.all false
set_option maxRecDepth 100000
/-! What is kept of a removal is a zigzag. -/
namespace RS
open PySem PySem.Spec PyProof.Rows L2
end RS
set_option Elab.async false
set_option linter.all false
set_option maxRecDepth 100000
namespace RS
open PySem PySem.Spec PyProof.Rows L2
end RS
set_option Elab.async false
set_option linter.all false
set_option maxRecDepth 100000
namespace RS
open PySem PySem.Spec PyProof.Rows L2
end RS
set_option Elab.async false
set_option linter.all false
set_option maxRecDepth 100000
/-! sorted(set(numbers)) -/
namespace RS
open PySem PySem.Spec PyProof.Rows L2
end RS
set_option Elab.async false
set_option linter.all false
set_option maxRecDepth 100000
/-! No ring within the tolerance has less movement or fewer turns. -/
namespace RS
open PySem PySem.Spec PyProof.Rows L2
end RS
set_option Elab.async false
set_option linter.all false
set_option maxRecDepth 100000
namespace RS
open PySem PySem.Spec PyProof.Rows L2
end RS
set_option Elab.async false
set_option linter.all false
set_option maxRecDepth 100000
/-! zigzag_bound, is_within, smoothing_holds at zigzags. -/
namespace RS
open PySem PySem.Spec PyProof.Rows L2
end RS
set_option Elab.async false
set_option linter.all false
set_option maxRecDepth 100000
/-! A list of one's own that is data from some statement on. -/
namespace RS
open PySem PySem.Spec PyProof.Rows L2
def delM (M : Mem) (L : Addr) : Mem := fun a => if a = L then none else M a
theorem delM_ne {M : Mem} {L a : Addr} (h : a ≠ L) : delM M L a = M a := if_neg h
section
variable {X : Cx} {Vx : VX}
def wFrz (i : Nat) (w : DS) : DS := fun F Γ M => w { F with nx := fun Γ' M' => ∃ L ds, Γ'[i]? = some (some (.obj (.ref L))) ∧ M' L = some (.dl ds) ∧ F.nx (Γ'.set i (some (.lst ds))) (delM M' L) } Γ M
theorem ds_frz {st : Stmt} {i : Nat} {w : DS} (h : DSt X Vx st w) : DSt X Vx st (wFrz i w) := PS.imp h fun E σ H q => by
  obtain ⟨Γ, W, F, rfl, c, w1, k⟩ := q
  refine ⟨Γ, W, _, rfl, c, w1, ?_, k.rt, k.bk, k.ct, k.ex⟩
  intro Γ' W' σ' p f c'
  obtain ⟨L, ds, e1, e2, p⟩ := p
  obtain ⟨nN, vs, eH, rvs⟩ := c'.ok.m L _ e2
  have cr : Carry X.K W' ⟨delM W'.M L, fun a => W'.N a ∧ a ≠ L, W'.H⟩ := ⟨fun h n => ⟨h, fun z => n z.1⟩⟩
  have ok2 : Ok X.K ⟨delM W'.M L, fun a => W'.N a ∧ a ≠ L, W'.H⟩ := ⟨fun a u e => by
    have hne : a ≠ L := by
      rintro rfl
      have e' : delM W'.M a a = some u := e
      unfold delM at e'
      rw [if_pos rfl] at e'
      cases e'
    have e' : W'.M a = some u := by
      have e' : delM W'.M L a = some u := e
      rw [delM_ne hne] at e'
      exact e'
    obtain ⟨h1, h2⟩ := c'.ok.m a u e'
    exact ⟨⟨h1, hne⟩, h2.carry cr rfl⟩⟩
  obtain ⟨v, hv, rv⟩ := c'.env i _ e1
  cases rv
  have c2 : Cn X.K (Γ'.set i (some (.lst ds))) ⟨delM W'.M L, fun a => W'.N a ∧ a ≠ L, W'.H⟩ σ' := by
    refine ⟨ok2, by rw [List.length_set]; exact c'.len, fun j d hj => ?_⟩
    rw [List.getElem?_set] at hj
    by_cases hij : i = j
    · subst hij
      rw [if_pos rfl] at hj
      split at hj
      · cases hj
        exact ⟨_, hv, .lst ⟨eH, fun z => z.2 rfl⟩ (Rvs.carry cr _ _ rvs)⟩
      · cases hj
    · rw [if_neg hij] at hj
      obtain ⟨u, hu, ru⟩ := c'.env j d hj
      exact ⟨u, hu, Rv.carry cr _ _ ru⟩
  refine k.nx _ ⟨delM W'.M L, fun a => W'.N a ∧ a ≠ L, W'.H⟩ σ' p ?_ c2
  intro a o h1 h2
  obtain ⟨j1, j2, j3⟩ := f a o h1 h2
  have hne : a ≠ L := by
    rintro rfl
    rw [e2] at j2
    cases j2
  exact ⟨j1, by show delM W'.M L a = none; rw [delM_ne hne]; exact j2, ⟨fun z => j3.mp z.1, fun z => ⟨j3.mpr z, hne⟩⟩⟩
end
end RS
set_option Elab.async false
set_option linter.all false
set_option maxRecDepth 100000
/-! A height between its neighbours changes nothing. -/
namespace RS
open PySem PySem.Spec PyProof.Rows L2
/-! lazy rings -/
end RS
set_option Elab.async false
set_option linter.all false
set_option maxRecDepth 100000
/-! Texts of numbers. -/
namespace RS
open PySem PySem.Spec PyProof.Rows L2
end RS
set_option Elab.async false
set_option linter.all false
set_option maxRecDepth 100000
/-! str of a number, join, f-strings of numbers. -/
namespace RS
open PySem PySem.Spec PyProof.Rows L2
end RS
set_option Elab.async false
set_option linter.all false
set_option maxRecDepth 100000
namespace RS
open PySem PySem.Spec PyProof.Rows L2
/-! ### t.index(x), t a tuple of data -/
end RS
set_option Elab.async false
set_option linter.all false
set_option maxRecDepth 100000
/-! tuple(list) whose object is known, its index; list.remove of data. -/
namespace RS
open PySem PySem.Spec PyProof.Rows L2
end RS
set_option Elab.async false
set_option linter.all false
set_option maxRecDepth 100000
/-! a op b op c op d as a test. -/
namespace RS
open PySem PySem.Spec PyProof.Rows L2
end RS
set_option Elab.async false
set_option linter.all false
set_option maxRecDepth 100000
/-! The data layer: exceptions. -/
namespace RS
open PySem PySem.Spec PyProof.Rows L2
/-! ### defs that may raise -/
section
variable {P : Program} {w : World} {K : PySem.W.Frag} {mg : Str → Option Value} {base : Heap}
theorem okGX {x qual : Str} {st : Stmt} {f : Addr} {fd : FuncData} {N ps : List Str} {k : Nat} {sp : Sp} (F : Fun K x qual st f fd)
    (S : FnScope N ps (defScope st)) (len : ∀ vs H Q E, sp vs H Q E → vs.length = ps.length)
    (walk : ∀ (cdv : Value) (A : Around) (outer : List Env) (s : Shared) (H : Hp) (vs : List V) (Q : VK) (E : XK), A.guards = some [] →
      Room k (A.deeper (envOfC qual (defScope st) s.heap.objs.size f cdv)) → sp vs H Q E →
      ∃ t, PSs (cxOf (L2.CX P w) P w K mg base N qual (defScope st) f cdv A outer s H E) (defBody st) t ∧
        t { nx := fun _ H' => Q .non H', rt := Q } (start N vs) H) :
    FnG P w K mg base (L2.CX P w) (k + 1) f fd ps sp := by
  obtain ⟨oc, od, kV, doc, pm, an, cdv, ct, osl, rfl, lk, hcd⟩ := F.ex
  refine ⟨len, ?_⟩
  intro A outer s H args us vs Q E hgd room env bnd rel prom
  have hlen := len _ _ _ _ prom
  have inK : K.In s.heap := env.mod.kin.keeps fun b o q => (env.bs b o q).1
  have noLim : s.heap.NoLimit := env.mod.nolimit.keeps fun b o q => (env.bs b o q).1
  refine codeAny_call_function room.depth (inK _ _ lk) rfl S.co S.gen rfl (PySem.W.codeRec_of inK hcd) (bnd _ _ _ _ ?_)
  refine wpAny_newFunctionEnv_cells S.kind ?_ ?_
  · rintro ⟨n, v⟩ mem
    exact (S.par n (List.of_mem_zip mem).1).imp id fun q => ⟨q, PySem.W.cellsFrom_some _ _ _ (.inl q)⟩
  · intro env' he s1 x1
    subst he
    refine ⟨noLim.keeps x1.toInCall.keep, codeAny_func ?_⟩
    obtain ⟨t, ht, hq⟩ := walk cdv A outer s H vs Q E hgd (room.deeper _) prom
    have I := inv_start (CX := L2.CX P w) (E := E) S room.hd env hlen rel x1
    refine wpAny_mono (ht.run [] s1 (start N vs) H _ I hq) ?_ (fun _ _ z => z)
    intro fl s' hs
    cases fl with
    | ret u =>
      obtain ⟨v, σ', H', J, rv, q⟩ := hs
      exact ⟨v, H', J.os, J.bare, J.base, J.hok, rv, q⟩
    | next =>
      obtain ⟨σ', H', J, q⟩ := hs
      exact ⟨V.non, H', J.os, J.bare, J.base, J.hok, rfl, q⟩
    | brk => exact hs.elim fun _ h => h.elim fun _ h => h.2.elim
    | cont => exact hs.elim fun _ h => h.elim fun _ h => h.2.elim
end
/-- what is wanted of an exception: its class by name, its fields -/
abbrev DXK := Str → List (Str × D) → Mem → Prop
abbrev DSpX := List D → Mem → DK → DXK → Prop
def ContX (K : PySem.W.Frag) (ct : Str → Value) (W : Wd) (PX : DXK) (E : XK) : Prop := ∀ (n : Str) (fs : List (Str × D)) (W' : Wd) (d : Option Addr), PX n fs W'.M → Fr W W' → Ok K W' → ExO K W' d fs → Fresh W d → E (ct n) d W'.H
theorem ContX.fr {K : PySem.W.Frag} {ct : Str → Value} {W W1 : Wd} {PX : DXK} {E : XK} (c : ContX K ct W PX E) (f : Fr W W1) : ContX K ct W1 PX E := fun n fs W' d p g k x y => c n fs W' d p (f.trans g) k x (y.fr f)
def spX (K : PySem.W.Frag) (ct : Str → Value) (g : DSpX) : Sp := fun vs H Q E => ∃ W ds P PX, W.H = H ∧ Ok K W ∧ Rvs K W vs ds ∧ g ds W.M P PX ∧ Cont K W P Q ∧ ContX K ct W PX E
abbrev endsX (P : DK) (PX : DXK) : DEnds := ⟨fun _ M' => P .non M', P, fun _ _ => False, fun _ _ => False, fun _ n fs M' => PX n fs M'⟩
theorem okDX {P : Program} {w : World} {K : PySem.W.Frag} {mg : Str → Option Value} {base : Heap} {x qual : Str} {st : Stmt} {f : Addr} {fd : FuncData} {N ps : List Str} {k : Nat} {g : DSpX} {ct : Str → Value} (F : Fun K x qual st f fd)
    (S : FnScope N ps (defScope st)) (len : ∀ ds M P PX, g ds M P PX → ds.length = ps.length)
    (walk : ∀ (cdv : Value) (A : Around) (outer : List Env) (s : Shared) (H : Hp) (E : XK), A.guards = some [] → Room k (A.deeper (envOfC qual (defScope st) s.heap.objs.size f cdv)) →
      ∃ t, DSs (cxOf (L2.CX P w) P w K mg base N qual (defScope st) f cdv A outer s H E) (fun n d _ H' => E (ct n) d H') (defBody st) t ∧ ∀ ds M P PX, g ds M P PX → t (endsX P PX) (ds.map some ++ List.replicate (N.length - ds.length) none) M) :
    FnG P w K mg base (L2.CX P w) (k + 1) f fd ps (spX K ct g) := by
  refine okGX F S (fun vs H Q E h => ?_) (fun cdv A outer s H vs Q E hgd hr h => ?_)
  · obtain ⟨W, ds, P, PX, rfl, c, r, q, k⟩ := h
    rw [r.length, len _ _ _ _ q]
  · obtain ⟨t, ht, hq⟩ := walk cdv A outer s H E hgd hr
    obtain ⟨W, ds, P, PX, rfl, c, r, q, kk, kx⟩ := h
    refine ⟨_, ht, ds.map some ++ List.replicate (N.length - ds.length) none, W, _, rfl, ⟨c, ?_, fun i d hd => ?_⟩, hq ds W.M P PX q, ⟨fun Γ' W' σ' p f c' => kk .non W' .non p f c'.ok .non, kk, fun _ _ _ p => p.elim, fun _ _ _ p => p.elim, fun Γ' W' σ' n fs d p f c' x y => kx n fs W' d p f c'.ok x y⟩⟩
    · unfold L2.start
      simp [r.length]
    · by_cases hi : i < ds.length
      · rw [List.getElem?_append_left (by simpa using hi), List.getElem?_map] at hd
        cases e : ds[i]? with
        | none => rw [e] at hd; cases hd
        | some d' =>
          rw [e] at hd
          cases hd
          obtain ⟨v, h1, h2⟩ := r.get e
          refine ⟨v, ?_, h2⟩
          unfold L2.start
          rw [List.getElem?_append_left (by simpa [r.length] using hi), List.getElem?_map, h1]
          rfl
      · rw [List.getElem?_append_right (by simpa using Nat.le_of_not_lt hi), List.getElem?_replicate] at hd
        split at hd <;> cases hd
/-- a promise without exceptions, as one with them, and back where none is raised -/
def noX (g : DSpX) : DSp := fun ds M P => g ds M P fun _ _ _ => False
/-! ### calls -/
section
variable {X : Cx} {k : Nat} {f : Addr} {fd : FuncData} {ps : List Str} {sp : Sp} {Wv : WX} {x : Str} {p pos : Pos} {e : Expr} {es : List Expr} {t : TA}
theorem pe_callGX (hgd : X.A.guards = some []) (F : FnG X.prog X.w X.K X.mg X.base (L2.CX X.prog X.w) k f fd ps sp) (room : Room k X.A) (hg : Gl X x)
    (hm : X.mg x = some (.ref f)) (kp : PySem.W.keepIn X.K (.ref f) = true) (bnd : Binds X.K fd ps []) (tk : Takes X Wv)
    (ha : PA X (e :: es) t) (hdb : (x == ("__debug__" : Str)) = false := by decide)
    (he : starEach (e :: es) X.env = (false, eval e X.env) :: starEach es X.env := by rfl) (hpl : (backTo pos (starEach es X.env)).any (·.1) = false := by rfl) :
    PE X (.Call (.Name x p) (e :: es) [] pos) (fun σ H Q => t σ H fun vs H1 => sp vs H1 Q fun cls d H' => Wv cls d σ H') := by
  refine ⟨?_⟩
  intro pins s σ H Q I h
  refine wpAny_Call_Name_kw (ld_glob I hg hm ?_ hdb)
  refine PySem.W.callWith_K (h₀ := X.base) I.ok.mod.kin kp (thn (ha.run pos pins s σ H _ I h) ?_) he hpl
  rintro us s1 ⟨vs, H1, I1, rel, q⟩
  have hl : us.length = ps.length := by
    rw [← rel.length]
    exact F.len _ _ _ _ q
  have bd := bnd s1 us I1.kIn (by rw [List.append_nil]; exact hl)
  rw [List.append_nil] at bd
  refine ⟨I1.kIn, wpAny_call (codeAny_mono (F.run X.A X.stack s1 H1 ⟨us, []⟩ us vs Q _ hgd room I1.env0 bd rel q) ?_)⟩
  intro r s' hq
  cases r with
  | error z => exact tk _ _ (XE.of_call I1 (fun cls d H' w => w) hq)
  | ok fl =>
    cases fl with
    | ret u => exact I1.after hq
    | next => exact hq.elim
    | brk => exact hq.elim
    | cont => exact hq.elim
end
abbrev DWX := DG → Mem → DK → DXK → Prop
def liftX (K : PySem.W.Frag) (Vx : VX) (w : DWX) : TE := fun σ H Q => ∃ Γ W P PX, W.H = H ∧ Cn K Γ W σ ∧ w Γ W.M P PX ∧ Cont K W P Q ∧ ∀ n fs W' d, PX n fs W'.M → Fr W W' → Ok K W' → ExO K W' d fs → Fresh W d → Vx n d σ W'.H
def DEX (X : Cx) (Vx : VX) (e : Expr) (w : DWX) : Prop := PE X e (liftX X.K Vx w)
section
variable {X : Cx} {Vx : VX}
def wPure (w : DW) : DWX := fun Γ M P _ => w Γ M P
theorem dex_of {e : Expr} {w : DW} (h : DE X e w) : DEX X Vx e (wPure w) := PE.imp h fun σ H Q q => by
  obtain ⟨Γ, W, P, PX, rfl, c, w, k, _⟩ := q
  exact ⟨Γ, W, P, rfl, c, w, k⟩
def wNX (g : DSpX) (wa : DAW) : DWX := fun Γ M P PX => wa Γ M fun ds M1 => g ds M1 P PX
theorem dex_call {ct : Str → Value} {k : Nat} {f : Addr} {fd : FuncData} {ps : List Str} {g : DSpX} {x : Str} {p pos : Pos} {e : Expr} {es : List Expr} {wa : DAW} {Wv : WX} (hgd : X.A.guards = some [])
    (F : FnG X.prog X.w X.K X.mg X.base (L2.CX X.prog X.w) k f fd ps (spX X.K ct g)) (room : Room k X.A) (hg : Gl X x)
    (hm : X.mg x = some (.ref f)) (kp : PySem.W.keepIn X.K (.ref f) = true) (bnd : Binds X.K fd ps []) (tk : Takes X Wv) (hV : ∀ n d σ H, Vx n d σ H → Wv (ct n) d σ H)
    (ha : DA X (e :: es) wa) (hdb : (x == ("__debug__" : Str)) = false := by decide)
    (he : starEach (e :: es) X.env = (false, eval e X.env) :: starEach es X.env := by rfl) (hpl : (backTo pos (starEach es X.env)).any (·.1) = false := by rfl) :
    DEX X Vx (.Call (.Name x p) (e :: es) [] pos) (wNX g wa) := PE.imp (pe_callGX hgd F room hg hm kp bnd tk ha hdb he hpl) fun σ H Q q => by
  obtain ⟨Γ, W, P, PX, rfl, c, w, k, kx⟩ := q
  refine ⟨Γ, W, _, rfl, c, w, fun ds W1 xs w1 f1 k1 r1 => ⟨W1, ds, P, PX, rfl, k1, r1, w1, k.fr f1, fun n fs W' d px f2 k2 x y => hV n d σ _ (kx n fs W' d px (f1.trans f2) k2 x (y.fr f1))⟩⟩
/-- a call of such a def where it raises nothing -/
theorem de_callN {ct : Str → Value} {k : Nat} {f : Addr} {fd : FuncData} {ps : List Str} {g : DSpX} {x : Str} {p pos : Pos} {e : Expr} {es : List Expr} {wa : DAW} (hgd : X.A.guards = some [])
    (F : FnG X.prog X.w X.K X.mg X.base (L2.CX X.prog X.w) k f fd ps (spX X.K ct g)) (room : Room k X.A) (hg : Gl X x)
    (hm : X.mg x = some (.ref f)) (kp : PySem.W.keepIn X.K (.ref f) = true) (bnd : Binds X.K fd ps [])
    (ha : DA X (e :: es) wa) (hdb : (x == ("__debug__" : Str)) = false := by decide)
    (he : starEach (e :: es) X.env = (false, eval e X.env) :: starEach es X.env := by rfl) (hpl : (backTo pos (starEach es X.env)).any (·.1) = false := by rfl) :
    DE X (.Call (.Name x p) (e :: es) [] pos) (wN (noX g) wa) := PE.imp (pe_callGX hgd F room hg hm kp bnd (takes0 (X := X)) ha hdb he hpl) fun σ H Q q => by
  obtain ⟨Γ, W, P, rfl, c, w, k⟩ := q
  exact ⟨Γ, W, _, rfl, c, w, fun ds W1 xs w1 f1 k1 r1 => ⟨W1, ds, P, _, rfl, k1, r1, w1, k.fr f1, fun n fs W' d px _ _ _ _ => px⟩⟩
/-! ### statements with such expressions -/
def wRetX (we : DWX) : DS := fun F Γ M => we Γ M F.rt (F.ex Γ)
theorem ds_retX {e : Expr} {pos : Pos} {we : DWX} (h : DEX X Vx e we) : DSt X Vx (.Return (some e) pos) (wRetX we) := PS.imp (ps_ret h) fun E σ H q => by
  obtain ⟨Γ, W, F, rfl, c, w, k⟩ := q
  exact ⟨Γ, W, _, _, rfl, c, w, k.rt, fun n fs W' d px f2 k2 x y => k.ex Γ W' σ n fs d px f2 (c.fr f2 k2) x y⟩
def wSetX (i : Nat) (we : DWX) : DS := fun F Γ M => we Γ M (fun d M1 => F.nx (Γ.set i (some d)) M1) (F.ex Γ)
theorem ds_setX {st : Stmt} {we : DWX} {i : Nat} (h : PS X st (tAsg (liftX X.K Vx we) (gName i))) : DSt X Vx st (wSetX i we) := PS.imp h fun E σ H q => by
  obtain ⟨Γ, W, F, rfl, c, w, k⟩ := q
  exact ⟨Γ, W, _, _, rfl, c, w, fun d W1 v w1 f1 k1 r1 => k.nx _ W1 _ w1 f1 ((c.fr f1 k1).set i r1), fun n fs W' d px f2 k2 x y => k.ex Γ W' σ n fs d px f2 (c.fr f2 k2) x y⟩
def wDropX (we : DWX) : DS := fun F Γ M => we Γ M (fun _ M1 => F.nx Γ M1) (F.ex Γ)
theorem ds_exprX {e : Expr} {pos : Pos} {we : DWX} (h : DEX X Vx e we) (hs : swapsWith e none pos.line X.env = pure false := by rfl) : DSt X Vx (.Expr e pos) (wDropX we) := PS.imp (ps_expr h hs) fun E σ H q => by
  obtain ⟨Γ, W, F, rfl, c, w, k⟩ := q
  exact ⟨Γ, W, _, _, rfl, c, w, fun d W1 v w1 f1 k1 r1 => k.nx Γ W1 σ w1 f1 (c.fr f1 k1), fun n fs W' d px f2 k2 x y => k.ex Γ W' σ n fs d px f2 (c.fr f2 k2) x y⟩
/-! ### raise of a class without fields -/
def wRaise0 (n : Str) : DS := fun F Γ M => F.ex Γ n [] M
theorem ds_raise0 {ct : Str → Value} {Wv : WX} {e : Expr} {pos : Pos} {C : Addr} {n : Str} (hc : X.calm = true) (tk : Takes X Wv) (hV : ∀ n d σ H, Vx n d σ H → Wv (ct n) d σ H) (en : ct n = .ref C) (he : PMk X e (fun _ H Q => Q (.ref C) none H)) :
    DSt X Vx (.Raise (some e) none pos) (wRaise0 n) := PS.imp (ps_raise hc tk he) fun E σ H q => by
  obtain ⟨Γ, W, F, rfl, c, w, k⟩ := q
  have := hV n none σ W.H (k.ex Γ W σ n [] none w (Fr.refl W) c rfl (fun _ z => nomatch z))
  rw [en] at this
  exact this
/-! ### try: body / except x as n: suite -/
def sufF (F : DEnds) (i : Nat) : DEnds := { F with nx := fun Γ M => F.nx (Γ.set i none) M, bk := fun Γ M => F.bk (Γ.set i none) M, ct := fun Γ M => F.ct (Γ.set i none) M, ex := fun _ _ _ _ => False }
end
end RS
set_option Elab.async false
set_option linter.all false
set_option maxRecDepth 100000
/-! Exceptions by data: fields, isinstance in an except suite. -/
namespace RS
open PySem PySem.Spec PyProof.Rows L2
theorem Rfs.lookup {K : PySem.W.Frag} {W : Wd} {f : Str} {x : D} : ∀ {gs : List (Str × V)} {fs : List (Str × D)}, Rfs K W gs fs → fs.lookup f = some x → ∃ v, gs.lookup f = some v ∧ Rv K W v x := by
  intro gs fs h
  induction h with
  | nil => intro e; cases e
  | @cons y v vs dd ds r _ ih =>
    intro e
    rw [List.lookup_cons] at e ⊢
    cases c : (f == y) with
    | true =>
      rw [c] at e
      cases e
      exact ⟨v, rfl, r⟩
    | false =>
      rw [c] at e
      exact ih e
/-- what is asked of a class of exceptions -/
structure XC (K : PySem.W.Frag) (D : Addr) : Prop where
  hcl : (PySem.W.clsIn K D).isSome = true
  ga : PySem.W.findIn K (.ref D) "__getattribute__" = some (some (.builtin "BaseException.__getattribute__"))
  gg : PySem.W.findIn K (.ref D) "__getattr__" = some none
  hs : PySem.W.subIn K (.ref D) (.type "BaseException") = some true
  ha : PySem.W.findIn K (.ref D) "__class__" = some (some (.builtin "object.__class__"))
  hn : PySem.W.specialIn K (.builtin "object.__class__") "__get__" = some (some (.builtin "getset_descriptor.__get__"))
  ht : PySem.W.takesIn K (.builtin "object.__class__") = some true
  hm : PySem.W.mroIn K D (.type "object") = some true
def XdH (H : Hp) (d : Option Addr) : Prop := ∀ dd, d = some dd → ∃ fs, H dd = some (.xd fs)
section
variable {X : Cx} {a D : Addr} {d : Option Addr} {oe : Obj} {pn : List (Addr × Obj)}
/-! the same by data -/
def XdM (M : Mem) (d : Option Addr) : Prop := match d with
  | none => True
  | some dd => ∃ fs, M dd = some (.xd fs)
theorem XdM.h {K : PySem.W.Frag} {W : Wd} (k : Ok K W) (h : XdM W.M d) : XdH W.H d := fun dd e => by
  subst e
  obtain ⟨fs, m⟩ := h
  obtain ⟨_, gs, h1, _⟩ := k.m dd _ m
  exact ⟨gs, h1⟩
end
/-! ### raise C(e), where C's __init__ keeps the one argument as a field -/
theorem del_upd {H : Hp} {a dx C : Addr} {f : Str} {v : V} (na : H a = none) (hne : dx ≠ a) : upd (del (upd (upd (upd H a (exo a C none)) dx (exd dx [(f, v)])) a (exo a C (some dx))) a) dx (.xd [(f, v)]) = upd H dx (.xd [(f, v)]) := by
  funext b
  by_cases h1 : b = dx
  · subst h1
    rw [upd_same, upd_same]
  · rw [upd_ne h1, upd_ne h1]
    by_cases h2 : b = a
    · subst h2
      rw [del_same, na]
    · rw [del_ne h2, upd_ne h2, upd_ne h1, upd_ne h2]
def wRaise1 (n f : Str) (we : DW) : DS := fun F Γ M => we Γ M fun x M1 => F.ex Γ n [(f, x)] M1
end RS
set_option Elab.async false
set_option linter.all false
set_option maxRecDepth 100000
/-! C() of an own class of exceptions without an own __init__; what a clause catches. -/
namespace RS
open PySem PySem.Spec PyProof.Rows L2
theorem pmk_own0 {X : Cx} {C : Addr} {bmB : List Value} {B newId initId : String} {x : Str} {p pos : Pos} (F : ExcBaseFacts B newId initId bmB) (q : PySem.W.excIn X.K C bmB newId = true) (gC : X.mg x = some (.ref C))
    (kC : PySem.W.keepIn X.K (.ref C) = true) (r : Raises X (.ref C)) (hg : Gl X x) (hdb : (x == ("__debug__" : Str)) = false := by decide) : PMk X (.Call (.Name x p) [] [] pos) (fun _ H Q => Q (.ref C) none H) := by
  intro pins s σ H Q I h
  refine wpAny_Call_Name_kw (ld_glob I hg gC ?_ hdb)
  refine PySem.W.callWith_K0 I.kIn kC ?_
  show wpAny _ _ (call (.ref C) []) _ _ _
  obtain ⟨bm, N, nm, qn, bs, hdct, sn, sub, ab, col, dd, k0, k1, k2, k3, k5, mN, hC, hN, hni, T⟩ := exc_obj I.kIn q
  exact wpAny_call_exc_subT F T hC hN hni (fun h' e hm => mk_of I hm r h (I.hok.gone hm.new)) (Nat.zero_le _)
theorem XC.xf {K : PySem.W.Frag} {D : Addr} (x : XC K D) (h : PySem.W.hasDictIn K D = true) : XfC K D := ⟨x.ga, x.gg, x.hs, h⟩
end RS
set_option Elab.async false
set_option linter.all false
set_option maxRecDepth 100000
/-! The data layer: instances of the program's own classes: fields, methods, new ones. -/
namespace RS
open PySem PySem.Spec PyProof.Rows L2
/-! ### fields -/
def putD (f : Str) (d : D) : List (Str × D) → List (Str × D)
  | [] => [(f, d)]
  | (g, x) :: r => if g = f then (g, d) :: r else (g, x) :: putD f d r
section
variable {K : PySem.W.Frag} {W : Wd}
theorem Rfs.look {f : Str} : ∀ {gs : List (Str × V)} {fs : List (Str × D)} {d : D}, Rfs K W gs fs → fs.lookup f = some d → ∃ v, gs.lookup f = some v ∧ Rv K W v d
  | _, _, _, .nil, e => by cases e
  | _, _, d, .cons (x := x) r t, e => by
    rw [List.lookup_cons] at e ⊢
    cases h : f == x with
    | true =>
      rw [h] at e
      cases e
      exact ⟨_, rfl, r⟩
    | false =>
      rw [h] at e
      exact t.look e
theorem Rfs.lookN {f : Str} : ∀ {gs : List (Str × V)} {fs : List (Str × D)}, Rfs K W gs fs → fs.lookup f = none → gs.lookup f = none
  | _, _, .nil, _ => rfl
  | _, _, .cons (x := x) r t, e => by
    rw [List.lookup_cons] at e ⊢
    cases h : f == x with
    | true =>
      rw [h] at e
      cases e
    | false =>
      rw [h] at e
      exact t.lookN e
theorem Rfs.put {f : Str} {v : V} {d : D} (r : Rv K W v d) : ∀ {gs : List (Str × V)} {fs : List (Str × D)}, Rfs K W gs fs → Rfs K W (putF f v gs) (putD f d fs)
  | _, _, .nil => .cons r .nil
  | _, _, .cons (x := x) q t => by
    show Rfs K W (if x = f then _ else _) (if x = f then _ else _)
    by_cases h : x = f
    · rw [if_pos h, if_pos h]
      exact .cons r t
    · rw [if_neg h, if_neg h]
      exact .cons q (t.put r)
theorem Rfs.length : ∀ {gs : List (Str × V)} {fs : List (Str × D)}, Rfs K W gs fs → gs.length = fs.length
  | _, _, .nil => rfl
  | _, _, .cons _ t => by simp [t.length]
/-- a change of an instance -/
theorem chg_okI {a C dx : Addr} {gs : List (Str × V)} {fs : List (Str × D)} {m0 : MO} (k : Ok K W) (h : W.M a = some m0) (r : Rfs K W gs fs) : Ok K ⟨updM W.M a (.ins C dx fs), W.N, upd W.H a (.ins C dx gs)⟩ := by
  have nN := (k.m a _ h).1
  refine ⟨fun b o e => ?_⟩
  by_cases hb : b = a
  · subst hb
    have e' : updM W.M b (.ins C dx fs) b = some o := e
    rw [updM_same] at e'
    cases e'
    exact ⟨nN, gs, upd_same, r.carry (chg_carry nN)⟩
  · have e' : updM W.M a (.ins C dx fs) b = some o := e
    rw [updM_ne hb] at e'
    obtain ⟨j1, j2⟩ := k.m b o e'
    exact ⟨j1, j2.carry (chg_carry nN) (upd_ne hb)⟩
end
section
variable {X : Cx} {Vx : VX}
/-- the instance at a, of a class that is known -/
def InsM (okC : Addr → Prop) (M : Mem) (o : D) (C : Addr) (fs : List (Str × D)) : Prop := ∃ a dx, o = .obj (.ref a) ∧ M a = some (.ins C dx fs) ∧ okC C
def wFld (okC : Addr → Prop) (wo : DW) (f : Str) : DW := fun Γ M P => wo Γ M fun o M1 => ∃ C fs d, InsM okC M1 o C fs ∧ fs.lookup f = some d ∧ P d M1
theorem de_fld {e : Expr} {f : Str} {wo : DW} {okC : Addr → Prop} (hC : ∀ C, okC C → Cls X.K C ∧ NoAttr X.K C f) (h : PE X e (tFld X.K (lift X.K wo) f)) : DE X e (wFld okC wo f) := PE.imp h fun σ H Q q => by
  obtain ⟨Γ, W, P, rfl, c, w, k⟩ := q
  refine ⟨Γ, W, _, rfl, c, w, fun o W1 ov w1 f1 k1 r1 => ?_⟩
  obtain ⟨C, fs, d, ⟨a, dx, rfl, m, oc⟩, lk, w1⟩ := w1
  cases r1
  obtain ⟨nN, gs, eH, rf⟩ := k1.m a _ m
  obtain ⟨v, lv, rv⟩ := rf.look lk
  exact ⟨a, C, dx, gs, v, rfl, eH, (hC C oc).1, (hC C oc).2, lv, k d W1 v w1 f1 k1 rv⟩
def wSetFld (okC : Addr → Prop) (we wo : DW) (f : Str) : DS := fun F Γ M => we Γ M fun d M1 => wo Γ M1 fun o M2 => ∃ a C dx fs, o = .obj (.ref a) ∧ M2 a = some (.ins C dx fs) ∧ okC C ∧ fs.length < 1000 ∧ F.nx Γ (updM M2 a (.ins C dx (putD f d fs)))
theorem ds_setFld {st : Stmt} {f : Str} {we wo : DW} {okC : Addr → Prop} (hC : ∀ C, okC C → Cls X.K C ∧ NoAttr X.K C f) (h : PS X st (sFld X.K (lift X.K wo) (lift X.K we) f)) : DSt X Vx st (wSetFld okC we wo f) := PS.imp h fun E σ H q => by
  obtain ⟨Γ, W, F, rfl, c, w, k⟩ := q
  refine ⟨Γ, W, _, rfl, c, w, fun d W1 v w1 f1 k1 r1 => ⟨Γ, W1, _, rfl, c.fr f1 k1, w1, fun o W2 ov w2 f2 k2 r2 => ?_⟩⟩
  obtain ⟨a, C, dx, fs, rfl, m, oc, hl, w2⟩ := w2
  cases r2
  obtain ⟨nN, gs, eH, rf⟩ := k2.m a _ m
  have rp := rf.put (f := f) (r1.fr k1 f2)
  refine ⟨a, C, dx, gs, rfl, eH, (hC C oc).1, (hC C oc).2, by rw [rf.length]; exact hl, ?_⟩
  have f3 : Fr W ⟨updM W2.M a (.ins C dx (putD f d fs)), W2.N, upd W2.H a (.ins C dx (putF f v gs))⟩ := (f1.trans f2).trans (chg_fr m)
  exact k.nx Γ ⟨updM W2.M a (.ins C dx (putD f d fs)), W2.N, upd W2.H a (.ins C dx (putF f v gs))⟩ σ w2 f3 (c.fr f3 (chg_okI k2 m rp))
/-! ### a part of a list of one's own, as a list of one's own -/
def wSlOO (we : DW) (wl wh : DOW) : DOwn := fun Γ M P => we Γ M fun d M1 => wl Γ M1 fun l M2 => wh Γ M2 fun h M3 => match d with
  | .obj (.ref a) => ∃ ds, M3 a = some (.dl ds) ∧ P (cutD ds l h) M3
  | _ => False
theorem deo_sliceO {e : Expr} {lo hi : Option Expr} {p2 pos : Pos} {we : DW} {wl wh : DOW} (he : DE X e we) (hl : DO X lo wl) (hh : DO X hi wh) : DEo X (.Subscript e (.Slice lo hi none p2) pos) (wSlOO we wl wh) :=
  PE.imp (pe_slice sl_list he hl hh) fun σ H Q q => by
  obtain ⟨Γ, W, P, rfl, c, w, k⟩ := q
  refine ⟨Γ, W, _, rfl, c, w, fun d W1 v w1 f1 k1 r1 => ⟨Γ, W1, _, rfl, c.fr f1 k1, w1, fun l W2 w2 f2 k2 => ⟨Γ, W2, _, rfl, c.fr (f1.trans f2) k2, w2, fun h W3 w3 f3 k3 => ?_⟩⟩⟩
  have ff := (f1.trans f2).trans f3
  split at w3
  · cases r1
    obtain ⟨ds, m, w3⟩ := w3
    obtain ⟨_, vs, eH, rvs⟩ := k3.m _ _ m
    refine ⟨_, vs, rfl, SqL.of eH, fun p np => ?_⟩
    refine k (cutD ds l h) (W3.hide p (.lst (cutV vs l h))) p (cutV vs l h) w3 (ff.trans (Fr.hide np)) (k3.hide np) (fun z2 => ?_) upd_same (.inr rfl) (k3.nil_ np) ((cut_rvs rvs l h).fr k3 (Fr.hide np))
    cases z : W.H p with
    | none => rfl
    | some o =>
      have := (ff p o z2 z).1
      rw [np] at this
      cases this
  · exact w3.elim
end
end RS
set_option Elab.async false
set_option linter.all false
set_option maxRecDepth 100000
/-! Methods and new instances. -/
namespace RS
open PySem PySem.Spec PyProof.Rows L2
/-- how a method's parameters are bound: by what is written behind self, or by keywords alone -/
structure MBn (K : PySem.W.Frag) (fd : FuncData) (ps ks : List Str) (g : List Value → List Value → List Value) (gV : List V → List V → List V) : Prop where
  to : ∀ (s : Shared) (us ws : List Value), K.In s.heap → (g us ws).length = ps.length → (ks = [] ∧ ws = []) ∨ (ks ≠ [] ∧ us.length = 1) → BindsTo s fd ⟨us, ks.zip ws⟩ (ps.zip (g us ws))
  rel : ∀ {vs : List V} {us : List Value} {zs : List V} {ws : List Value}, Vals vs us → Vals zs ws → Vals (gV vs zs) (g us ws)
/-- the method m of instances of C, keywords ks -/
structure MetG (X : Cx) (CX : CXT) (k : Nat) (m : Str) (ks : List Str) (gV : List V → List V → List V) (C : Addr) (sp : Sp) : Prop where
  cl : Cls X.K C
  ex : ∃ (f : Addr) (fd : FuncData) (ps : List Str) (g : List Value → List Value → List Value), Meth X.K C m f ∧ FnG X.prog X.w X.K X.mg X.base CX k f fd ps sp ∧ MBn X.K fd ps ks g gV
section
variable {X : Cx} {CX : CXT} {k : Nat} {ks : List Str} {gV : List V → List V → List V} {okC : Addr → Prop} {m : Str} {sp : Addr → Sp} {E : L2.St → XK} {o e : Expr} {es : List Expr} {kws : List Keyword} {apos pos : Pos} {ta : TE} {t tk : TA}
/-- what a callee raises is taken -/
def ErrOk (X : Cx) (CX : CXT) (E : L2.St → XK) : Prop := ∀ (pins : List (Addr × Obj)) (σ : L2.St) (H : Hp) (s : Shared) (z : Value) (s' : Shared), Inv X pins σ H s → CX X.stack H s (E σ) z s' → X.xe z s'
theorem run_met (hgd : X.A.guards = some []) (hx : ErrOk X CX E) (hr : Room k X.A) {C f a : Addr} {fd : FuncData} {ps : List Str} {g : List Value → List Value → List Value} {sp : Sp} (F : FnG X.prog X.w X.K X.mg X.base CX k f fd ps sp) (hb : MBn X.K fd ps ks g gV)
    {pins : List (Addr × Obj)} {σ : L2.St} {H : Hp} {s : Shared} {Q : VK} {us ws : List Value} {vs zs : List V} (I : Inv X pins σ H s) (r : Vals vs us) (rz : Vals zs ws) (hu : (ks = [] ∧ ws = []) ∨ (ks ≠ [] ∧ us = [])) (h : sp (gV (.ref a :: vs) zs) H Q (E σ)) :
    wpAny (model X.prog X.w) X.A (call (.ref f) (.ref a :: us) (ks.zip ws)) (EP X pins σ Q) X.xe s := by
  have r0 : Vals (V.ref a :: vs) (Value.ref a :: us) := .cons rfl r
  have r2 := hb.rel r0 rz
  refine wpAny_call (codeAny_mono (F.run X.A X.stack s H ⟨.ref a :: us, ks.zip ws⟩ (g (.ref a :: us) ws) (gV (.ref a :: vs) zs) Q (E σ) hgd hr I.env0 (hb.to s _ ws I.kIn (by rw [← r2.length]; exact F.len _ _ _ _ h) (hu.imp id fun e => ⟨e.1, by rw [e.2]; rfl⟩)) r2 h) fun r s' hq => ?_)
  cases r with
  | error e => exact hx pins σ H s e s' I hq
  | ok fl =>
    cases fl with
    | ret u => exact I.after hq
    | next => exact False.elim hq
    | brk => exact False.elim hq
    | cont => exact False.elim hq
def tMet (okC : Addr → Prop) (m : Str) (gV : List V → List V → List V) (sp : Addr → Sp) (E : L2.St → XK) (ta : TE) (t tk : TA) : TE := fun σ H Q => ta σ H fun x H1 => ∃ a C dx fs, x = .ref a ∧ H1 a = some (.ins C dx fs) ∧ okC C ∧ fs.lookup m = none ∧
  t σ H1 fun vs H2 => tk σ H2 fun zs H3 => sp C (gV (x :: vs) zs) H3 Q (E σ)
theorem pe_met {pl : Sem Bool} (hgd : X.A.guards = some []) (he : PE X o ta) (hM : ∀ C, okC C → MetG X CX k m [] gV C (sp C)) (hx : ErrOk X CX E) (hr : Room k X.A) (ha : PA X (e :: es) t)
    (hst : starEach (e :: es) X.env = (false, eval e X.env) :: starEach es X.env := by rfl) (hpl : (backTo pos (starEach es X.env)).any (·.1) = false := by rfl)
    (ht : eval (.Call (.Attribute o m apos) (e :: es) [] pos) X.env = (do
      let ov ← eval o X.env
      standAt apos.atName
      let (f, first) ← holding [ov] (getMethod ov m pl)
      callWith pos f first (backTo pos (starEach (e :: es) X.env)) (backToKw pos (keywordEach [] X.env))) := by rfl) :
    PE X (.Call (.Attribute o m apos) (e :: es) [] pos) (tMet okC m gV sp E ta t tNil) := by
  refine ⟨fun pins s σ H Q I h => ?_⟩
  refine PySem.W.methodCall_KW (pl := pl) (thn (he.run pins s σ H _ I h) fun u s1 ⟨x, H1, I1, rx, a, C, dx, fs, ex, ea, oc, l, q⟩ => ?_) ht
  subst ex
  obtain rfl : u = Value.ref a := rx
  obtain ⟨cl, f, fd, ps, g, hm, F, hb⟩ := hM C oc
  refine getmeth_ok I1 ea cl hm l ?_
  refine PySem.W.callWith_K (first := [.ref a]) (h₀ := X.base) I.ok.mod.kin hm.kp (thn (ha.run pos pins s1 σ H1 _ I1 q) fun us s2 ⟨vs, H2, I2, r, q2⟩ => ⟨I2.kIn, ?_⟩) hst hpl
  exact run_met (C := C) (a := a) (ws := []) (zs := []) hgd hx hr F hb I2 r .nil (.inl ⟨rfl, rfl⟩) q2
theorem pe_met0 {pl : Sem Bool} (hgd : X.A.guards = some []) (he : PE X o ta) (hM : ∀ C, okC C → MetG X CX k m [] gV C (sp C)) (hx : ErrOk X CX E) (hr : Room k X.A)
    (ht : eval (.Call (.Attribute o m apos) [] [] pos) X.env = (do
      let ov ← eval o X.env
      standAt apos.atName
      let (f, first) ← holding [ov] (getMethod ov m pl)
      callWith pos f first (backTo pos (starEach [] X.env)) (backToKw pos (keywordEach [] X.env))) := by rfl) :
    PE X (.Call (.Attribute o m apos) [] [] pos) (tMet okC m gV sp E ta tNil tNil) := by
  refine ⟨fun pins s σ H Q I h => ?_⟩
  refine PySem.W.methodCall_KW (pl := pl) (thn (he.run pins s σ H _ I h) fun u s1 ⟨x, H1, I1, rx, a, C, dx, fs, ex, ea, oc, l, q⟩ => ?_) ht
  subst ex
  obtain rfl : u = Value.ref a := rx
  obtain ⟨cl, f, fd, ps, g, hm, F, hb⟩ := hM C oc
  refine getmeth_ok I1 ea cl hm l ?_
  exact PySem.W.callWith_K0 (first := [.ref a]) I1.kIn hm.kp (run_met (C := C) (a := a) (us := []) (vs := []) (ws := []) (zs := []) hgd hx hr F hb I1 .nil .nil (.inl ⟨rfl, rfl⟩) q)
/-! ### new instances -/
def tMak (C : Addr) (sp : Sp) (E : L2.St → XK) (t : TA) : TE := fun σ H Q => t σ H fun vs H1 => ∀ x dx, H1 x = none → H1 dx = none → dx ≠ x →
  sp (.ref x :: vs) (upd (upd H1 dx (.own x)) x (.ins C dx [])) (fun v H2 => v = .non ∧ Q (.ref x) H2) (E σ)
theorem pe_mak {C f : Addr} {fd : FuncData} {ps : List Str} {sp : Sp} {x : Str} {p : Pos} (hgd : X.A.guards = some []) (M : Mk X.K C f) (F : FnG X.prog X.w X.K X.mg X.base CX k f fd ps sp) (hr : Room (k + 1) X.A) (hg : Gl X x) (hm : X.mg x = some (.ref C)) (hb : Binds X.K fd ps [])
    (hx : ErrOk X CX E) (ha : PA X (e :: es) t) (hdb : (x == ("__debug__" : Str)) = false := by decide) (he : starEach (e :: es) X.env = (false, eval e X.env) :: starEach es X.env := by rfl) (hpl : (backTo pos (starEach es X.env)).any (·.1) = false := by rfl) :
    PE X (.Call (.Name x p) (e :: es) [] pos) (tMak C sp E t) := by
  refine ⟨fun pins s0 σ H Q I h => ?_⟩
  refine wpAny_Call_Name_kw (ld_glob I hg hm ?_ hdb)
  refine PySem.W.callWith_K (h₀ := X.base) I.ok.mod.kin M.kp (thn (ha.run pos pins s0 σ H _ I h) fun us s ⟨vs, H1, I1, r, q⟩ => ⟨I1.kIn, ?_⟩) he hpl
  show wpAny _ _ (call (.ref C) us) _ _ s
  have hq := q (s.heap.objs.size + 1) s.heap.objs.size (I1.hok.fresh (Nat.le_succ _)) (I1.hok.fresh (Nat.le_refl _)) (Nat.ne_of_lt (Nat.lt_succ_self _))
  have I2 := Inv.made (C := C) I1
  have r2 : Vals (V.ref (s.heap.objs.size + 1) :: vs) (Value.ref (s.heap.objs.size + 1) :: us) := .cons rfl r
  have hl : (Value.ref (s.heap.objs.size + 1) :: us ++ []).length = ps.length := by
    have e := r2.length
    rw [F.len _ _ _ _ hq] at e
    rw [List.append_nil]
    exact e.symm
  have bd := hb { s with heap := (s.heap.push PySem.W.emptyDict).push (PySem.W.instObj C s.heap.objs.size) } (Value.ref (s.heap.objs.size + 1) :: us) I2.kIn hl
  rw [List.append_nil] at bd
  refine wpAny_call (make_map (f := f) I1.kIn M.makes M.init (beq_iff_eq.mp M.fn) (codeAny_mono (F.run _ X.stack _ _ ⟨Value.ref (s.heap.objs.size + 1) :: us, []⟩ (Value.ref (s.heap.objs.size + 1) :: us) _ _ (E σ) (by first | exact hgd | (simpa [Around.under] using hgd)) (hr.make C us [])
    (I2.env0.make C us []) bd r2 hq) fun r s' hq' => ?_))
  cases r with
  | error e => exact hx pins σ _ _ e s' I2 hq'
  | ok fl =>
    cases fl with
    | ret u =>
      obtain ⟨v, H', I3, rv, ev, q3⟩ := I2.after hq'
      subst ev
      exact ⟨rv, ⟨V.ref (s.heap.objs.size + 1), H', I3, rfl, q3⟩⟩
    | next => exact False.elim hq'
    | brk => exact False.elim hq'
    | cont => exact False.elim hq'
end
end RS
set_option Elab.async false
set_option linter.all false
set_option maxRecDepth 100000
/-! Methods and new instances, by data. -/
namespace RS
open PySem PySem.Spec PyProof.Rows L2
section
variable {X : Cx} {Vx : VX}
/-! ### keywords -/
theorem PK.imp {e : List Keyword} {t t' : TA} (h : PK X e t) (m : ∀ σ H Q, t' σ H Q → t σ H Q) : PK X e t' := ⟨fun pos pins s σ H Q I q => h.run pos pins s σ H Q I (m σ H Q q)⟩
/-! ### how values and data are put in the parameters' order -/
structure GRel (gV : List V → List V → List V) (gD : List D → List D → List D) : Prop where
  r : ∀ (K : PySem.W.Frag) (W : Wd) (vs zs : List V) (ds es : List D), Rvs K W vs ds → Rvs K W zs es → Rvs K W (gV vs zs) (gD ds es)
theorem GRel.all : GRel (fun vs _ => vs) (fun ds _ => ds) := ⟨fun _ _ _ _ _ _ r _ => r⟩
theorem GRel.dfl {dvs : List V} {dds : List D} (h : ∀ K W, Rvs K W dvs dds) : GRel (fun vs zs => vs ++ zs ++ dvs) (fun ds es => ds ++ es ++ dds) := ⟨fun K W _ _ _ _ r z => (r.append z).append (h K W)⟩
/-! ### o.m(..) -/
def wMet (okC : Addr → Prop) (m : Str) (gD : List D → List D → List D) (g : Addr → DSp) (wo : DW) (wa wk : DAW) : DW := fun Γ M P => wo Γ M fun o M1 => ∃ C fs, InsM okC M1 o C fs ∧ fs.lookup m = none ∧ wa Γ M1 fun ds M2 => wk Γ M2 fun es M3 => g C (gD (o :: ds) es) M3 P
theorem met_lift {K : PySem.W.Frag} {okC : Addr → Prop} {m : Str} {gV : List V → List V → List V} {gD : List D → List D → List D} {g : Addr → DSp} {wo : DW} {wa wk : DAW} {E : L2.St → XK} (gr : GRel gV gD) {σ : L2.St} {H : Hp} {Q : VK} (q : lift K (wMet okC m gD g wo wa wk) σ H Q) :
    tMet okC m gV (fun C => spD K (g C)) E (lift K wo) (liftA K wa) (liftA K wk) σ H Q := by
  obtain ⟨Γ, W, P, rfl, c, w, k⟩ := q
  refine ⟨Γ, W, _, rfl, c, w, fun o W1 ov w1 f1 k1 r1 => ?_⟩
  obtain ⟨C, fs, ⟨a, dx, rfl, mm, oc⟩, lk, w1⟩ := w1
  cases r1
  obtain ⟨nN, gs, eH, rf⟩ := k1.m a _ mm
  refine ⟨a, C, dx, gs, rfl, eH, oc, rf.lookN lk, Γ, W1, _, rfl, c.fr f1 k1, w1, fun ds W2 vs w2 f2 k2 r2 => ⟨Γ, W2, _, rfl, c.fr (f1.trans f2) k2, w2, fun es W3 zs w3 f3 k3 r3 => ?_⟩⟩
  exact ⟨W3, _, P, rfl, k3, gr.r _ _ _ _ _ _ (.cons (.obj _) (r2.fr k2 f3)) r3, w3, k.fr ((f1.trans f2).trans f3)⟩
def wMetX (okC : Addr → Prop) (m : Str) (gD : List D → List D → List D) (g : Addr → DSpX) (wo : DW) (wa wk : DAW) : DWX := fun Γ M P PX => wo Γ M fun o M1 => ∃ C fs, InsM okC M1 o C fs ∧ fs.lookup m = none ∧ wa Γ M1 fun ds M2 => wk Γ M2 fun es M3 => g C (gD (o :: ds) es) M3 P PX
theorem met_liftX {K : PySem.W.Frag} {ct : Str → Value} {okC : Addr → Prop} {m : Str} {gV : List V → List V → List V} {gD : List D → List D → List D} {g : Addr → DSpX} {wo : DW} {wa wk : DAW} {Wv : WX} (hV : ∀ n d σ H, Vx n d σ H → Wv (ct n) d σ H) (gr : GRel gV gD) {σ : L2.St} {H : Hp} {Q : VK} (q : liftX K Vx (wMetX okC m gD g wo wa wk) σ H Q) :
    tMet okC m gV (fun C => spX K ct (g C)) (fun σ cls d H' => Wv cls d σ H') (lift K wo) (liftA K wa) (liftA K wk) σ H Q := by
  obtain ⟨Γ, W, P, PX, rfl, c, w, k, kx⟩ := q
  refine ⟨Γ, W, _, rfl, c, w, fun o W1 ov w1 f1 k1 r1 => ?_⟩
  obtain ⟨C, fs, ⟨a, dx, rfl, mm, oc⟩, lk, w1⟩ := w1
  cases r1
  obtain ⟨nN, gs, eH, rf⟩ := k1.m a _ mm
  refine ⟨a, C, dx, gs, rfl, eH, oc, rf.lookN lk, Γ, W1, _, rfl, c.fr f1 k1, w1, fun ds W2 vs w2 f2 k2 r2 => ⟨Γ, W2, _, rfl, c.fr (f1.trans f2) k2, w2, fun es W3 zs w3 f3 k3 r3 => ?_⟩⟩
  have ff := (f1.trans f2).trans f3
  exact ⟨W3, _, P, PX, rfl, k3, gr.r _ _ _ _ _ _ (.cons (.obj _) (r2.fr k2 f3)) r3, w3, k.fr ff, fun n fs W' d px f4 k4 x y => hV n d σ _ (kx n fs W' d px (ff.trans f4) k4 x (y.fr ff))⟩
theorem err0 {E : L2.St → XK} : ErrOk X CX0 E := fun pins σ H s z s' I h => (pass0 : Passes CX0 X (E σ)) pins σ H s z s' I h
theorem errX {Wv : WX} (tk : Takes X Wv) : ErrOk X (L2.CX X.prog X.w) (fun σ cls d H' => Wv cls d σ H') := fun pins σ H s z s' I h => tk _ _ (XE.of_call I (fun _ _ _ w => w) h)
theorem nil_lift {K : PySem.W.Frag} {σ : L2.St} {H : Hp} {Q : List V → Hp → Prop} (q : liftA K wNil σ H Q) : tNil σ H Q := by
  obtain ⟨Γ, W, P, rfl, c, w, k⟩ := q
  exact k [] W [] w (Fr.refl W) c.ok .nil
theorem tMet_nil2 {K : PySem.W.Frag} {okC : Addr → Prop} {m : Str} {gV : List V → List V → List V} {sp : Addr → Sp} {E : L2.St → XK} {wo : DW} {wa : DAW} {σ : L2.St} {H : Hp} {Q : VK} (q : tMet okC m gV sp E (lift K wo) (liftA K wa) (liftA K wNil) σ H Q) : tMet okC m gV sp E (lift K wo) (liftA K wa) tNil σ H Q := by
  obtain ⟨Γ, W, P, e, c, w, k⟩ := q
  refine ⟨Γ, W, P, e, c, w, fun d W' v p f kk r => ?_⟩
  obtain ⟨a, C, dx, fs, e1, e2, e3, e4, Γ2, W2, P2, e5, c2, w2, k2⟩ := k d W' v p f kk r
  exact ⟨a, C, dx, fs, e1, e2, e3, e4, Γ2, W2, P2, e5, c2, w2, fun ds W3 vs p3 f3 kk3 r3 => nil_lift (k2 ds W3 vs p3 f3 kk3 r3)⟩
theorem tMet_nil1 {K : PySem.W.Frag} {okC : Addr → Prop} {m : Str} {gV : List V → List V → List V} {sp : Addr → Sp} {E : L2.St → XK} {wo : DW} {tk : TA} {σ : L2.St} {H : Hp} {Q : VK} (q : tMet okC m gV sp E (lift K wo) (liftA K wNil) tk σ H Q) : tMet okC m gV sp E (lift K wo) tNil tk σ H Q := by
  obtain ⟨Γ, W, P, e, c, w, k⟩ := q
  refine ⟨Γ, W, P, e, c, w, fun d W' v p f kk r => ?_⟩
  obtain ⟨a, C, dx, fs, e1, e2, e3, e4, h⟩ := k d W' v p f kk r
  exact ⟨a, C, dx, fs, e1, e2, e3, e4, nil_lift h⟩
section
variable {k : Nat} {ks : List Str} {gV : List V → List V → List V} {gD : List D → List D → List D} {okC : Addr → Prop} {m : Str} {o : Expr} {wo : DW} {wa wk : DAW}
theorem de_met {g : Addr → DSp} {e : Expr} (gr : GRel gV gD) (h : PE X e (tMet okC m gV (fun C => spD X.K (g C)) (fun _ _ _ _ => False) (lift X.K wo) (liftA X.K wa) tNil)) : DE X e (wMet okC m gD g wo wa wNil) :=
  PE.imp h fun _ _ _ q => tMet_nil2 (met_lift gr q)
section
variable {ct : Str → Value} {g : Addr → DSpX} {e : Expr}
theorem dex_met {Wv : WX} (hV : ∀ n d σ H, Vx n d σ H → Wv (ct n) d σ H) (gr : GRel gV gD) (h : PE X e (tMet okC m gV (fun C => spX X.K ct (g C)) (fun σ cls d H' => Wv cls d σ H') (lift X.K wo) (liftA X.K wa) tNil)) : DEX X Vx e (wMetX okC m gD g wo wa wNil) :=
  PE.imp h fun _ _ _ q => tMet_nil2 (met_liftX hV gr q)
theorem dex_met0 {Wv : WX} (hV : ∀ n d σ H, Vx n d σ H → Wv (ct n) d σ H) (gr : GRel gV gD) (h : PE X e (tMet okC m gV (fun C => spX X.K ct (g C)) (fun σ cls d H' => Wv cls d σ H') (lift X.K wo) tNil tNil)) : DEX X Vx e (wMetX okC m gD g wo wNil wNil) :=
  PE.imp h fun _ _ _ q => tMet_nil1 (tMet_nil2 (met_liftX hV gr q))
/-- where nothing is raised -/
theorem met_liftN (gr : GRel gV gD) {σ : L2.St} {H : Hp} {Q : VK} (q : lift X.K (wMet okC m gD (fun C => noX (g C)) wo wa wk) σ H Q) : tMet okC m gV (fun C => spX X.K ct (g C)) (fun _ _ _ _ => False) (lift X.K wo) (liftA X.K wa) (liftA X.K wk) σ H Q := by
  obtain ⟨Γ, W, P, rfl, c, w, k⟩ := q
  exact met_liftX (Vx := VF) (ct := ct) (Wv := fun _ _ _ _ => False) (fun _ _ _ _ z => z) gr ⟨Γ, W, P, fun _ _ _ => False, rfl, c, w, k, fun _ _ _ _ z => z.elim⟩
theorem de_met0N (gr : GRel gV gD) (h : PE X e (tMet okC m gV (fun C => spX X.K ct (g C)) (fun _ _ _ _ => False) (lift X.K wo) tNil tNil)) : DE X e (wMet okC m gD (fun C => noX (g C)) wo wNil wNil) :=
  PE.imp h fun _ _ _ q => tMet_nil1 (tMet_nil2 (met_liftN gr q))
end
end
/-! ### C(..) -/
def wMak (C : Addr) (g : DSp) (wa : DAW) : DW := fun Γ M P => wa Γ M fun ds M1 => ∀ a dx, M1 a = none → M1 dx = none → dx ≠ a → g (.obj (.ref a) :: ds) (updM M1 a (.ins C dx [])) fun r M2 => r = .non ∧ P (.obj (.ref a)) M2
theorem mak_world {K : PySem.W.Frag} {W : Wd} {a dx C : Addr} (k : Ok K W) (na : W.H a = none) (nd : W.H dx = none) (ne : dx ≠ a) :
    ∃ W' : Wd, W'.M = updM W.M a (.ins C dx []) ∧ W'.H = upd (upd W.H dx (.own a)) a (.ins C dx []) ∧ Ok K W' ∧ Fr W W' := by
  refine ⟨⟨updM W.M a (.ins C dx []), fun b => W.N b ∨ b = a ∨ b = dx, upd (upd W.H dx (.own a)) a (.ins C dx [])⟩, rfl, rfl, ⟨fun b o e => ?_⟩, fun b o m h => ?_⟩
  · have cr : Carry K W ⟨updM W.M a (.ins C dx []), fun b => W.N b ∨ b = a ∨ b = dx, upd (upd W.H dx (.own a)) a (.ins C dx [])⟩ := ⟨fun {b o} h n => by
      have n1 : b ≠ a := ne_of_none h na
      have n2 : b ≠ dx := ne_of_none h nd
      exact ⟨by show upd _ a _ b = _; rw [upd_ne n1, upd_ne n2]; exact h, fun z => by rcases z with z | z | z; exact n z; exact n1 z; exact n2 z⟩⟩
    by_cases hb : b = a
    · subst hb
      have e' : updM W.M b (.ins C dx []) b = some o := e
      rw [updM_same] at e'
      cases e'
      exact ⟨.inr (.inl rfl), [], upd_same, .nil⟩
    · have e' : updM W.M a (.ins C dx []) b = some o := e
      rw [updM_ne hb] at e'
      obtain ⟨j1, j2⟩ := k.m b o e'
      obtain ⟨u, hu⟩ := j2.there
      refine ⟨.inl j1, j2.carry cr ?_⟩
      show upd _ a _ b = _
      rw [upd_ne hb, upd_ne (ne_of_none hu nd)]
  · have n1 : b ≠ a := ne_of_none h na
    have n2 : b ≠ dx := ne_of_none h nd
    exact ⟨by show upd _ a _ b = _; rw [upd_ne n1, upd_ne n2]; exact h, by show updM W.M a _ b = none; rw [updM_ne n1]; exact m, ⟨fun z => by rcases z with z | z | z; exact z; exact absurd z n1; exact absurd z n2, .inl⟩⟩
theorem de_mak {C : Addr} {g : DSp} {wa : DAW} {e : Expr} (h : PE X e (tMak C (spD X.K g) (fun _ _ _ _ => False) (liftA X.K wa))) : DE X e (wMak C g wa) := PE.imp h fun σ H Q q => by
  obtain ⟨Γ, W, P, rfl, c, w, k⟩ := q
  refine ⟨Γ, W, _, rfl, c, w, fun ds W1 vs w1 f1 k1 r1 a dx na nd ne => ?_⟩
  obtain ⟨W2, eM, eH, k2, f2⟩ := mak_world (C := C) k1 na nd ne
  refine ⟨W2, _, _, eH, k2, .cons (.obj _) (r1.fr k1 f2), by rw [eM]; exact w1 a dx (k1.nil_ na) (k1.nil_ nd) ne, fun d W3 v p f3 k3 r3 => ?_⟩
  obtain ⟨rfl, p⟩ := p
  cases r3
  exact ⟨rfl, k _ W3 _ p ((f1.trans f2).trans f3) k3 (.obj _)⟩
def wMakX (C : Addr) (g : DSpX) (wa : DAW) : DWX := fun Γ M P PX => wa Γ M fun ds M1 => ∀ a dx, M1 a = none → M1 dx = none → dx ≠ a → g (.obj (.ref a) :: ds) (updM M1 a (.ins C dx [])) (fun r M2 => r = .non ∧ P (.obj (.ref a)) M2) PX
theorem mak_liftX {K : PySem.W.Frag} {ct : Str → Value} {C : Addr} {g : DSpX} {wa : DAW} {Wv : WX} (hV : ∀ n d σ H, Vx n d σ H → Wv (ct n) d σ H) {σ : L2.St} {H : Hp} {Q : VK} (q : liftX K Vx (wMakX C g wa) σ H Q) :
    tMak C (spX K ct g) (fun σ cls d H' => Wv cls d σ H') (liftA K wa) σ H Q := by
  obtain ⟨Γ, W, P, PX, rfl, c, w, k, kx⟩ := q
  refine ⟨Γ, W, _, rfl, c, w, fun ds W1 vs w1 f1 k1 r1 a dx na nd ne => ?_⟩
  obtain ⟨W2, eM, eH, k2, f2⟩ := mak_world (C := C) k1 na nd ne
  refine ⟨W2, _, _, PX, eH, k2, .cons (.obj _) (r1.fr k1 f2), by rw [eM]; exact w1 a dx (k1.nil_ na) (k1.nil_ nd) ne, fun d W3 v p f3 k3 r3 => ?_, fun n fs W' d px f4 k4 x y => hV n d σ _ (kx n fs W' d px ((f1.trans f2).trans f4) k4 x (y.fr (f1.trans f2)))⟩
  obtain ⟨rfl, p⟩ := p
  cases r3
  exact ⟨rfl, k _ W3 _ p ((f1.trans f2).trans f3) k3 (.obj _)⟩
theorem de_makN {ct : Str → Value} {C : Addr} {g : DSpX} {wa : DAW} {e : Expr} (h : PE X e (tMak C (spX X.K ct g) (fun _ _ _ _ => False) (liftA X.K wa))) : DE X e (wMak C (noX g) wa) := PE.imp h fun σ H Q q => by
  obtain ⟨Γ, W, P, rfl, c, w, k⟩ := q
  exact mak_liftX (Vx := VF) (ct := ct) (Wv := fun _ _ _ _ => False) (fun _ _ _ _ z => z) ⟨Γ, W, P, fun _ _ _ => False, rfl, c, w, k, fun _ _ _ _ z => z.elim⟩
end
/-! ### how methods bind -/
theorem MBn.all {K : PySem.W.Frag} {fd : FuncData} {ps : List Str} (b : Binds K fd ps []) : MBn K fd ps [] (fun us _ => us) (fun vs _ => vs) :=
  ⟨fun s us ws X hl _ => by have := b s us X (by rw [List.append_nil]; exact hl); rw [List.append_nil] at this; exact this, fun r _ => r⟩
/-- the last keyword-only parameters lack -/
theorem MBn.kwTail {K : PySem.W.Frag} {x qual : Str} {params : Arguments} {body : List Stmt} {scope : Scope} {kws : List (Str × V)} {f : Addr} {fd : FuncData} {ps ks : List Str} (F : FunD K x qual params body scope [] kws f fd) (ms : List (Str × V)) (hms : ∀ q ∈ ms, q ∈ kws) (hk : kws ≠ [])
    (hp : ps.length = 1 + ks.length + ms.length)
    (h : ∀ (D : Addr) (doc pm : Value) (an : Option Addr) (cdv ct a : Value) (ws mv : List Value), ws.length = ks.length → mv.length = ms.length → KwChain D ((ms.map (·.1)).zip mv) (bindArgs (PySem.W.fnOf x qual params body scope .none (.ref D) doc pm an cdv ct) ⟨[a], ks.zip ws⟩) (ps.zip ([a] ++ ws ++ mv))) :
    ∃ g, MBn K fd ps ks g (fun vs zs => vs ++ zs ++ ms.map (·.2)) := by
  obtain ⟨oc, od, dV, kV, doc, pm, an, cdv, ct, osl, rfl, lk, hcd, hD, hK⟩ := F.ex
  rcases hD with ⟨_, rfl⟩ | ⟨e, _⟩
  · rcases hK with e | ⟨D, rfl, hq⟩
    · exact absurd e hk
    · obtain ⟨mv, hl, rk, hks⟩ := kwd_vals (ms := ms) fun q hm => hq q (hms q hm)
      refine ⟨fun us ws => us ++ ws ++ mv, fun s us ws X hlen hu => ?_, fun r z => (r.append z).append rk⟩
      rw [List.length_append, List.length_append, hl] at hlen
      have h1 : us.length = 1 ∧ ws.length = ks.length := by
        rcases hu with ⟨e1, e2⟩ | ⟨_, e⟩
        · subst e1 e2
          have : ([] : List Value).length = 0 := rfl
          have : ([] : List Str).length = 0 := rfl
          omega
        · omega
      match us, h1.1 with
      | [a], _ => exact BindsTo.of_looks fun M => KwChain.looks X hks (h D doc pm an cdv ct a ws mv h1.2 hl)
  · exact absurd rfl e
end RS
set_option Elab.async false
set_option linter.all false
set_option maxRecDepth 100000
/-! len of an instance. -/
namespace RS
open PySem PySem.Spec PyProof.Rows L2
section
variable {X : Cx} {okC : Addr → Prop} {k : Nat}
theorem call_lenI {sp : Addr → Sp} (hgd : X.A.guards = some []) (hr : Room (k + 1) X.A)
    (hL : ∀ C, okC C → ∃ (f : Addr) (fd : FuncData), PySem.W.findIn X.K (.ref C) "__len__" = some (some (.ref f)) ∧ PySem.W.isFn X.K (.ref f) = true ∧ FnG X.prog X.w X.K X.mg X.base CX0 k f fd ["self"] (sp C) ∧ Binds X.K fd ["self"] []) :
    CallR X (.builtin "len") (fun xs H Q => ∃ a C dx fs, xs = [.ref a] ∧ H a = some (.ins C dx fs) ∧ okC C ∧ sp C [.ref a] H (fun v H' => ∃ n : Int, v = .int n ∧ 0 ≤ n ∧ n < 2 ^ 63 ∧ Q (.int n) H') E0) := by
  intro pins s σ H xs us Q I r h
  obtain ⟨a, C, dx, fs, rfl, ea, oc, q⟩ := h
  obtain ⟨u, rfl, ru⟩ := vals1 r
  obtain rfl : u = Value.ref a := ru
  obtain ⟨f, fd, h1, h2, F, hb⟩ := hL C oc
  obtain ⟨mA, O, _⟩ := ins_get I.hok ea
  obtain ⟨od, IA, _⟩ := O.look
  obtain ⟨m, hns, hlook⟩ := I.loc
  have ab : X.base.objs.size ≤ X.env.locals := Nat.le_trans I.ok.bsz I.ok.above
  have Fm : PyProof.Rows.Fr X.base X.env.locals s.heap m := ⟨hns, I.bk, ab⟩
  refine PySem.W.len_K Fm I.ok.mod.kin IA h1 h2 ?_
  have bd := hb s [.ref a] I.kIn rfl
  refine wpAny_call (codeAny_mono (F.run X.A.in1 X.stack s H ⟨[.ref a], []⟩ [.ref a] [.ref a] _ E0 hgd hr.in1 I.env0.in1 bd (.cons rfl .nil) q) fun r s' hq => ?_)
  cases r with
  | error e => exact hq.elim
  | ok fl =>
    cases fl with
    | ret u =>
      obtain ⟨v, H', I3, rv, n, rfl, n0, n1, q3⟩ := I.after hq
      obtain ⟨t, rfl⟩ := (show ∃ t, u = Value.int n t from rv)
      exact ⟨⟨n0, n1⟩, ⟨.int n, H', I3.tok _, ⟨_, rfl⟩, q3⟩⟩
    | next => exact False.elim hq
    | brk => exact False.elim hq
    | cont => exact False.elim hq
def wLenI (okC : Addr → Prop) (g : Addr → DSp) (wo : DW) : DW := fun Γ M P => wo Γ M fun o M1 => ∃ C fs, InsM okC M1 o C fs ∧ g C [o] M1 fun r M2 => ∃ n : Int, r = .int n ∧ 0 ≤ n ∧ n < 2 ^ 63 ∧ P (.int n) M2
theorem de_lenI {g : Addr → DSp} {wo : DW} {e : Expr} (h : PE X e (tCB (fun xs H Q => ∃ a C dx fs, xs = [.ref a] ∧ H a = some (.ins C dx fs) ∧ okC C ∧ spD X.K (g C) [.ref a] H (fun v H' => ∃ n : Int, v = .int n ∧ 0 ≤ n ∧ n < 2 ^ 63 ∧ Q (.int n) H') E0) (liftA X.K (wCons wo wNil)))) :
    DE X e (wLenI okC g wo) := PE.imp h fun σ H Q q => by
  obtain ⟨Γ, W, P, rfl, c, w, k⟩ := q
  refine ⟨Γ, W, fun ds M1 => ∃ o, ds = [o] ∧ ∃ C fs, InsM okC M1 o C fs ∧ g C [o] M1 fun r M2 => ∃ n : Int, r = .int n ∧ 0 ≤ n ∧ n < 2 ^ 63 ∧ P (.int n) M2, rfl, c, ?_, fun ds W1 vs w1 f1 k1 r1 => ?_⟩
  · have : wo Γ W.M fun o M1 => wNil Γ M1 fun ds M2 => ∃ o', (o :: ds) = [o'] ∧ ∃ C fs, InsM okC M2 o' C fs ∧ g C [o'] M2 fun r M2 => ∃ n : Int, r = .int n ∧ 0 ≤ n ∧ n < 2 ^ 63 ∧ P (.int n) M2 := by
      have e : (fun (o : D) (M1 : Mem) => wNil Γ M1 fun ds M2 => ∃ o', (o :: ds) = [o'] ∧ ∃ C fs, InsM okC M2 o' C fs ∧ g C [o'] M2 fun r M2 => ∃ n : Int, r = .int n ∧ 0 ≤ n ∧ n < 2 ^ 63 ∧ P (.int n) M2) = (fun (o : D) (M1 : Mem) => ∃ C fs, InsM okC M1 o C fs ∧ g C [o] M1 fun r M2 => ∃ n : Int, r = .int n ∧ 0 ≤ n ∧ n < 2 ^ 63 ∧ P (.int n) M2) := by
        funext o M1
        refine propext ⟨?_, ?_⟩
        · rintro ⟨o', e, h⟩
          cases e
          exact h
        · intro h
          exact ⟨o, rfl, h⟩
      rw [e]
      exact w
    exact this
  · obtain ⟨o, rfl, C, fs, ⟨a, dx, rfl, mm, oc⟩, w1⟩ := w1
    cases r1 with
    | cons q1 t1 =>
      cases t1
      cases q1
      obtain ⟨nN, gs, eH, rf⟩ := k1.m a _ mm
      refine ⟨a, C, dx, gs, rfl, eH, oc, W1, _, _, rfl, k1, .cons (.obj _) .nil, w1, fun d W2 v p f2 k2 r2 => ?_⟩
      obtain ⟨n, rfl, n0, n1, p⟩ := p
      cases r2
      exact ⟨n, rfl, n0, n1, k _ W2 _ p (f1.trans f2) k2 (.int n)⟩
end
end RS
set_option Elab.async false
set_option linter.all false
set_option maxRecDepth 100000
/-! What the top has written of a class; the truth of a list of one's own. -/
namespace RS
open PySem PySem.Spec PyProof.Rows L2
section
variable {X : Cx}
/-- the truth of a list of one's own -/
def wTruO (wa : DW) : DTW := fun Γ M P => wa Γ M fun d M1 => ∃ a ds, d = .obj (.ref a) ∧ M1 a = some (.dl ds) ∧ P (!ds.isEmpty) M1
theorem dt_valO {e : Expr} {wa : DW} (h : DE X e wa) (he : ∀ whole, isTrue e X.env whole = (do let v ← whole; standAt e.pos; holding [v] (truthy v)) := by intro _; rfl) : DT X e (wTruO wa) :=
  PT.imp (pt_truth h he) fun σ H Q q => by
  obtain ⟨Γ, W, P, rfl, c, w, k⟩ := q
  refine ⟨Γ, W, _, rfl, c, w, fun d W1 v w1 f1 k1 r1 => ?_⟩
  obtain ⟨a, ds, rfl, m, w1⟩ := w1
  cases r1
  obtain ⟨_, vs, eH, rvs⟩ := k1.m a _ m
  exact ⟨!vs.isEmpty, .inl ⟨_, SqL.of eH, rfl⟩, k _ W1 (by rw [← isEmpty_rvs rvs]; exact w1) f1 k1⟩
end
/-- a method as it stands in its class -/
structure MetAt (K : PySem.W.Frag) (C : Addr) (x q : Str) (st : Stmt) : Prop where
  ex : ∃ (f : Addr) (oc : Value) (od : Option Addr) (kV dc pm : Value) (an : Option Addr) (cd ct : Value) (sl : Array (Option Value)),
    PySem.W.findIn K (.ref C) x = some (some (.ref f)) ∧
    K.lookup f = some ⟨oc, od, .func (PySem.W.fnOf x q (defArgs st) (defBody st) (defScope st) .none kV dc pm an cd ct), sl⟩ ∧
    PySem.W.codeIn K cd q = true ∧ PySem.W.keepIn K (.ref f) = true ∧ PySem.W.isFn K (.ref f) = true
theorem met_mk {K : PySem.W.Frag} {C : Addr} {x q : Str} {st : Stmt} {f : Addr} {oc : Value} {od : Option Addr} {kV dc pm : Value} {an : Option Addr} {cd ct : Value}
    {sl : Array (Option Value)} (h1 : PySem.W.findIn K (.ref C) x = some (some (.ref f)))
    (h2 : K.lookup f = some ⟨oc, od, .func (PySem.W.fnOf x q (defArgs st) (defBody st) (defScope st) .none kV dc pm an cd ct), sl⟩)
    (h3 : PySem.W.codeIn K cd q = true) (h4 : PySem.W.keepIn K (.ref f) = true) (h5 : PySem.W.isFn K (.ref f) = true) : MetAt K C x q st := ⟨f, oc, od, kV, dc, pm, an, cd, ct, sl, h1, h2, h3, h4, h5⟩
theorem MetAt.get {K : PySem.W.Frag} {C : Addr} {x q : Str} {st : Stmt} (d : MetAt K C x q st) : ∃ (f : Addr) (fd : FuncData), Fun K x q st f fd ∧ Meth K C x f := by
  obtain ⟨f, oc, od, kV, dc, pm, an, cd, ct, sl, h1, h2, h3, h4, h5⟩ := d.ex
  exact ⟨f, _, fun_mk h2 h3 h4, ⟨h1, h5, h4⟩⟩
/-- a method with keyword-only defaults -/
structure MetAtK (K : PySem.W.Frag) (C : Addr) (x q : Str) (st : Stmt) (kws : List (Str × V)) : Prop where
  ex : ∃ (f D : Addr) (oc : Value) (od : Option Addr) (dc pm : Value) (an : Option Addr) (cd ct : Value) (sl : Array (Option Value)),
    PySem.W.findIn K (.ref C) x = some (some (.ref f)) ∧
    K.lookup f = some ⟨oc, od, .func (PySem.W.fnOf x q (defArgs st) (defBody st) (defScope st) .none (.ref D) dc pm an cd ct), sl⟩ ∧
    PySem.W.codeIn K cd q = true ∧ PySem.W.keepIn K (.ref f) = true ∧ PySem.W.isFn K (.ref f) = true ∧ ∀ p ∈ kws, ∃ u, PySem.W.nsIn K D p.1 = some (some u) ∧ RelV p.2 u
theorem met_mkK {K : PySem.W.Frag} {C : Addr} {x q : Str} {st : Stmt} {f D : Addr} {oc : Value} {od : Option Addr} {dc pm : Value} {an : Option Addr} {cd ct : Value}
    {sl : Array (Option Value)} {kws : List (Str × V)} (h1 : PySem.W.findIn K (.ref C) x = some (some (.ref f)))
    (h2 : K.lookup f = some ⟨oc, od, .func (PySem.W.fnOf x q (defArgs st) (defBody st) (defScope st) .none (.ref D) dc pm an cd ct), sl⟩)
    (h3 : PySem.W.codeIn K cd q = true) (h4 : PySem.W.keepIn K (.ref f) = true) (h5 : PySem.W.isFn K (.ref f) = true) (h6 : ∀ p ∈ kws, ∃ u, PySem.W.nsIn K D p.1 = some (some u) ∧ RelV p.2 u) : MetAtK K C x q st kws := ⟨f, D, oc, od, dc, pm, an, cd, ct, sl, h1, h2, h3, h4, h5, h6⟩
theorem MetAtK.get {K : PySem.W.Frag} {C : Addr} {x q : Str} {st : Stmt} {kws : List (Str × V)} (d : MetAtK K C x q st kws) : ∃ (f : Addr) (fd : FuncData), Fun K x q st f fd ∧ Meth K C x f ∧ FunD K x q (defArgs st) (defBody st) (defScope st) [] kws f fd := by
  obtain ⟨f, D, oc, od, dc, pm, an, cd, ct, sl, h1, h2, h3, h4, h5, h6⟩ := d.ex
  exact ⟨f, _, fun_mk h2 h3 h4, ⟨h1, h5, h4⟩, ⟨⟨oc, od, .none, .ref D, dc, pm, an, cd, ct, sl, rfl, h2, h3, .inl ⟨rfl, rfl⟩, .inr ⟨D, rfl, h6⟩⟩, h4⟩⟩
theorem kw_none {K : PySem.W.Frag} {D : Addr} {x : Str} (h : PySem.W.nsIn K D x = some (some .none)) : ∃ u, PySem.W.nsIn K D x = some (some u) ∧ RelV .non u := ⟨_, h, rfl⟩
/-- what is asked of a class of the program -/
structure OwnC (K : PySem.W.Frag) (x : Str) (C : Addr) : Prop where
  a : PySem.W.nsIn K mainGlobals x = some (some (.ref C))
  cl : Cls K C
  mks : PySem.W.makesIn K C = true
  kc : PySem.W.keepIn K (.ref C) = true
abbrev okB (c : Addr) : Addr → Prop := fun C => C = c
theorem cls_mk {K : PySem.W.Frag} {x : Str} {C : Addr} (a : PySem.W.nsIn K mainGlobals x = some (some (.ref C))) (pg : PySem.W.plainGet K C Str.empty = true) (hd : PySem.W.hasDictIn K C = true) (po : PySem.W.plainOver K C = true)
    (sa : PySem.W.findIn K (.ref C) "__setattr__" = some (some (.builtin "object.__setattr__"))) (mk : PySem.W.makesIn K C = true) (kc : PySem.W.keepIn K (.ref C) = true) : OwnC K x C := ⟨a, ⟨pg, hd, po, sa⟩, mk, kc⟩
end RS
set_option Elab.async false
set_option linter.all false
set_option maxRecDepth 100000
/-! str of an instance with its own __str__; f-strings of any number of parts. -/
namespace RS
open PySem PySem.Spec PyProof.Rows L2
end RS
set_option Elab.async false
set_option linter.all false
set_option maxRecDepth 100000
/-! Expressions in which a part may raise. -/
namespace RS
open PySem PySem.Spec PyProof.Rows L2
abbrev DAWX := DG → Mem → (List D → Mem → Prop) → DXK → Prop
/-- what is wished of an exception, from this world on -/
def XCo (K : PySem.W.Frag) (Vx : VX) (W : Wd) (σ : L2.St) (PX : DXK) : Prop := ∀ n fs W' d, PX n fs W'.M → Fr W W' → Ok K W' → ExO K W' d fs → Fresh W d → Vx n d σ W'.H
theorem XCo.fr {K : PySem.W.Frag} {Vx : VX} {W W1 : Wd} {σ : L2.St} {PX : DXK} (h : XCo K Vx W σ PX) (f : Fr W W1) : XCo K Vx W1 σ PX := fun n fs W' d p g k x y => h n fs W' d p (f.trans g) k x (y.fr f)
def liftAX (K : PySem.W.Frag) (Vx : VX) (w : DAWX) : TA := fun σ H Q => ∃ Γ W P PX, W.H = H ∧ Cn K Γ W σ ∧ w Γ W.M P PX ∧ (∀ ds W' vs, P ds W'.M → Fr W W' → Ok K W' → Rvs K W' vs ds → Q vs W'.H) ∧ XCo K Vx W σ PX
def DAX (X : Cx) (Vx : VX) (es : List Expr) (w : DAWX) : Prop := PA X es (liftAX X.K Vx w)
section
variable {X : Cx} {Vx : VX}
def wPureA (w : DAW) : DAWX := fun Γ M P _ => w Γ M P
theorem dax_of {es : List Expr} {w : DAW} (h : DA X es w) : DAX X Vx es (wPureA w) := PA.imp h fun σ H Q q => by
  obtain ⟨Γ, W, P, PX, rfl, c, w, k, _⟩ := q
  exact ⟨Γ, W, P, rfl, c, w, k⟩
def wConsX (we : DWX) (wr : DAWX) : DAWX := fun Γ M P PX => we Γ M (fun d M1 => wr Γ M1 (fun ds M2 => P (d :: ds) M2) PX) PX
theorem dax_cons {e : Expr} {es : List Expr} {we : DWX} {wr : DAWX} (ha : DEX X Vx e we) (hr : DAX X Vx es wr) (hs : starEach (e :: es) X.env = (false, eval e X.env) :: starEach es X.env := by rfl) :
    DAX X Vx (e :: es) (wConsX we wr) := PA.imp (pa_cons ha hr hs) fun σ H Q q => by
  obtain ⟨Γ, W, P, PX, rfl, c, w, k, kx⟩ := q
  exact ⟨Γ, W, _, PX, rfl, c, w, fun d1 W1 x w1 f1 k1 r1 => ⟨Γ, W1, _, PX, rfl, c.fr f1 k1, w1, fun ds W2 ys w2 f2 k2 r2 => k _ W2 _ w2 (f1.trans f2) k2 (.cons (r1.fr k1 f2) r2), XCo.fr kx f1⟩, kx⟩
/-! ### known things called, displays -/
/-! ### defs -/
/-! ### operations on two values -/
/-! ### methods with such arguments -/
def wMetXX (okC : Addr → Prop) (m : Str) (gD : List D → List D → List D) (g : Addr → DSpX) (wo : DW) (wa : DAWX) : DWX := fun Γ M P PX => wo Γ M fun o M1 => ∃ C fs, InsM okC M1 o C fs ∧ fs.lookup m = none ∧ wa Γ M1 (fun ds M2 => g C (gD (o :: ds) []) M2 P PX) PX
theorem dex_metXX {ct : Str → Value} {okC : Addr → Prop} {m : Str} {gV : List V → List V → List V} {gD : List D → List D → List D} {g : Addr → DSpX} {wo : DW} {wa : DAWX} {Wv : WX} {e : Expr} (hV : ∀ n d σ H, Vx n d σ H → Wv (ct n) d σ H) (gr : GRel gV gD)
    (h : PE X e (tMet okC m gV (fun C => spX X.K ct (g C)) (fun σ cls d H' => Wv cls d σ H') (lift X.K wo) (liftAX X.K Vx wa) tNil)) : DEX X Vx e (wMetXX okC m gD g wo wa) := PE.imp h fun σ H Q q => by
  obtain ⟨Γ, W, P, PX, rfl, c, w, k, kx⟩ := q
  refine ⟨Γ, W, _, rfl, c, w, fun o W1 ov w1 f1 k1 r1 => ?_⟩
  obtain ⟨C, fs, ⟨a, dx, rfl, mm, oc⟩, lk, w1⟩ := w1
  cases r1
  obtain ⟨nN, gs, eH, rf⟩ := k1.m a _ mm
  refine ⟨a, C, dx, gs, rfl, eH, oc, rf.lookN lk, Γ, W1, _, PX, rfl, c.fr f1 k1, w1, fun ds W2 vs w2 f2 k2 r2 => ?_, XCo.fr kx f1⟩
  have ff := f1.trans f2
  exact ⟨W2, _, P, PX, rfl, k2, gr.r _ _ _ _ _ _ (.cons (.obj _) r2) .nil, w2, k.fr ff, fun n fs W' d px f4 k4 x y => hV n d σ _ (kx n fs W' d px (ff.trans f4) k4 x (y.fr ff))⟩
/-! ### f-strings -/
end
end RS
set_option Elab.async false
set_option linter.all false
set_option maxRecDepth 100000
/-! try with several clauses, each with or without a name. -/
namespace RS
open PySem PySem.Spec PyProof.Rows L2
abbrev SuT := Addr → Value → Option Addr → TS
/-- a clause of an except: the class, the slot of its name, what its suite does -/
structure Clz where
  c : Value
  i : Option Nat
  t : SuT
abbrev Ends.gone (D : L2.Ends) (i : Nat) : L2.Ends := { nx := fun z h => D.nx (z.set i none) h, rt := D.rt, bk := fun z h => D.bk (z.set i none) h, ct := fun z h => D.ct (z.set i none) h }
def Clz.go (k : Clz) (D : L2.Ends) (a : Addr) (cls : Value) (d : Option Addr) (σ : L2.St) (H : Hp) : Prop := match k.i with
  | none => k.t a cls d D σ H
  | some i => k.t a cls d (Ends.gone D i) (σ.set i (some (.ref a))) H
/-- the suite of such a clause -/
def SuOk (X : Cx) (st : List Stmt) (t : SuT) : Prop := ∀ (a : Addr) (oe : Obj) (cls : Value) (d : Option Addr) (pn : List (Addr × Obj)), Zc cls d oe → (∃ vs, oe.data = .fields vs) → PSs (X.suite a ((a, oe) :: pn)) st (t a cls d)
inductive ClsOk (X : Cx) : List ExceptHandler → List Clz → Prop
  | nil : ClsOk X [] []
  | bare {x : Str} {c : Value} {t : SuT} {b₀ : Stmt} {st : List Stmt} {np pos' : Pos} {hds : List ExceptHandler} {l : List Clz} : Names X x c → SuOk X (b₀ :: st) t → ClsOk X hds l →
      ClsOk X (.ExceptHandler (some (.Name x np)) none (b₀ :: st) pos' :: hds) (⟨c, none, t⟩ :: l)
  | named {x n : Str} {i : Nat} {c : Value} {t : SuT} {b₀ : Stmt} {st : List Stmt} {np pos' : Pos} {hds : List ExceptHandler} {l : List Clz} : Names X x c → X.N[i]? = some n → X.env.kindOf n = some .local → SuOk X (b₀ :: st) t → ClsOk X hds l →
      ClsOk X (.ExceptHandler (some (.Name x np)) (some n) (b₀ :: st) pos' :: hds) (⟨c, some i, t⟩ :: l)
section
variable {X : Cx} {pins : List (Addr × Obj)} {σ : L2.St} {H : Hp} {a : Addr} {cls : Value} {d : Option Addr} {B : Heap} {sI s' : Shared}
/-- an exception that has come down, at the heap g -/
structure Down (X : Cx) (pins : List (Addr × Obj)) (σ : L2.St) (H : Hp) (a : Addr) (cls : Value) (d : Option Addr) (B : Heap) (sI s' : Shared) (g : Heap) : Prop where
  j : Inv X pins σ H sI
  nb : ∀ b o, sI.heap.get? b = some o → b ∉ frs X.stack → B.get? b = some o
  fl : HandSPX.FlyingZ B (X.env :: X.outer) a (Zc cls d) g
  up : sI.heap.UpToSlots g
  na : H a = none
  os : s'.os = sI.os
  ag : AllBare s'.gens
theorem Down.inv {g : Heap} (z : Down X pins σ H a cls d B sI s' g) : Inv X pins σ H { s' with heap := g } := z.j.landed z.nb z.fl.1 z.up z.os z.ag
theorem Down.obj {g : Heap} (z : Down X pins σ H a cls d B sI s' g) (hf : X.env.frame = some X.env.locals) : ∃ oe, Zc cls d oe ∧ (∃ vs, oe.data = .fields vs) ∧ Inv (X.suite a ((a, oe) :: (X.pn ++ pins))) [] σ H { s' with heap := g } := by
  obtain ⟨oe, vs, he, hz, hd⟩ := z.fl.there
  have far : a ∉ frs (X.env :: X.outer) := fun hm => by
    obtain ⟨_, o2, e2, no⟩ := z.fl.2.2.1.mem hm
    rw [he] at e2
    cases e2
    exact no _ hd
  refine ⟨oe, hz, ⟨vs, hd⟩, z.inv.suite he hd z.na (fun q => far (List.mem_filterMap.mpr ⟨X.env, List.mem_cons_self, by rw [hf, q]⟩)) fun hm => ?_⟩
  obtain ⟨e, he2, q⟩ := List.mem_filterMap.mp hm
  exact far (List.mem_filterMap.mpr ⟨e, List.mem_cons_of_mem _ he2, q⟩)
end
/-! ### by data -/
structure Hd where
  i : Option Nat
  mt : Str → Option Bool
  ws : Str → Option Addr → Addr → DS
/-- the ends of a suite without a name -/
def sufN (F : DEnds) : DEnds := { F with ex := fun _ _ _ _ => False }
def Hd.go (h : Hd) (F : DEnds) (Γ : DG) (n : Str) (d : Option Addr) (a : Addr) (M1 : Mem) : Prop := match h.i with
  | some i => h.ws n d a (sufF F i) (Γ.set i (some (.obj (.ref a)))) M1
  | none => h.ws n d a (sufN F) Γ M1
section
variable {X : Cx} {Vx : VX}
inductive HdsD (X : Cx) (ct : Str → Value) : List ExceptHandler → List Hd → List Clz → Prop
  | nil : HdsD X ct [] [] []
  | bare {x : Str} {c : Value} {mt : Str → Option Bool} {ws : Str → Option Addr → Addr → DS} {b₀ : Stmt} {st : List Stmt} {np pos' : Pos} {hds : List ExceptHandler} {l : List Hd} {k : List Clz} (hc : Names X x c) (hm : ∀ n b, mt n = some b → PySem.W.exmOne X.K (ct n) c = some b)
      (hsu : ∀ (n : Str) (d : Option Addr) (a : Addr) (oe : Obj) (pn : List (Addr × Obj)), mt n = some true → Zc (ct n) d oe → (∃ vs, oe.data = .fields vs) → DSs (X.suite a ((a, oe) :: pn)) VF (b₀ :: st) (ws n d a)) (r : HdsD X ct hds l k) :
      HdsD X ct (.ExceptHandler (some (.Name x np)) none (b₀ :: st) pos' :: hds) (⟨none, mt, ws⟩ :: l) (⟨c, none, fun a cls d E σ H => ∃ n, cls = ct n ∧ mt n = some true ∧ liftS X.K VF (ws n d a) E σ H⟩ :: k)
  | named {x nm : Str} {i : Nat} {c : Value} {mt : Str → Option Bool} {ws : Str → Option Addr → Addr → DS} {b₀ : Stmt} {st : List Stmt} {np pos' : Pos} {hds : List ExceptHandler} {l : List Hd} {k : List Clz} (hc : Names X x c) (hi : X.N[i]? = some nm) (hln : X.env.kindOf nm = some .local)
      (hm : ∀ n b, mt n = some b → PySem.W.exmOne X.K (ct n) c = some b)
      (hsu : ∀ (n : Str) (d : Option Addr) (a : Addr) (oe : Obj) (pn : List (Addr × Obj)), mt n = some true → Zc (ct n) d oe → (∃ vs, oe.data = .fields vs) → DSs (X.suite a ((a, oe) :: pn)) VF (b₀ :: st) (ws n d a)) (r : HdsD X ct hds l k) :
      HdsD X ct (.ExceptHandler (some (.Name x np)) (some nm) (b₀ :: st) pos' :: hds) (⟨some i, mt, ws⟩ :: l) (⟨c, some i, fun a cls d E σ H => ∃ n, cls = ct n ∧ mt n = some true ∧ liftS X.K VF (ws n d a) E σ H⟩ :: k)
theorem HdsD.cls {ct : Str → Value} {hds : List ExceptHandler} {l : List Hd} {k : List Clz} (h : HdsD X ct hds l k) : ClsOk X hds k := by
  induction h with
  | nil => exact .nil
  | bare hc hm hsu r ih =>
    refine .bare hc (fun a oe cls d pn hz hfd => ⟨fun pins s σ H D I q => ?_⟩) ih
    obtain ⟨n, e, hm', q⟩ := q
    subst e
    exact (hsu n d a oe pn hm' hz hfd).run pins s σ H D I q
  | named hc hi hln hm hsu r ih =>
    refine .named hc hi hln (fun a oe cls d pn hz hfd => ⟨fun pins s σ H D I q => ?_⟩) ih
    obtain ⟨n, e, hm', q⟩ := q
    subst e
    exact (hsu n d a oe pn hm' hz hfd).run pins s σ H D I q
end
end RS
set_option Elab.async false
set_option linter.all false
set_option maxRecDepth 100000
set_option maxHeartbeats 4000000
/-! Classes of exceptions with a field, over any built-in class of exceptions. -/
namespace RS
open PySem PySem.Spec PyProof.Rows L2
/-- what is asked of such a class, to make one and to store its field -/
structure OexB (K : PySem.W.Frag) (C : Addr) (bmB : List Value) (newId : String) : Prop where
  ini : PySem.W.excInitIn K C bmB newId = true
  ov : PySem.W.excOver K C bmB = true
  hd : PySem.W.hasDictIn K C = true
  sa : PySem.W.findIn K (.ref C) "__setattr__" = some (some (.builtin "object.__setattr__"))
  exC : PySem.W.subIn K (.ref C) (.type "BaseException") = some true
  tyC : PySem.W.typeIn K (.ref C) = some (.type "type")
  kC : PySem.W.keepIn K (.ref C) = true
theorem taker_of {K : PySem.W.Frag} {C : Addr} {f : Str} (h : PySem.W.findIn K (.ref C) f = some none) : PySem.W.takerIn K C f = some none := by
  unfold PySem.W.takerIn
  rw [h]
  rfl
section
variable {X : Cx} {pins : List (Addr × Obj)} {σ : L2.St} {H : Hp} {s : Shared} {a C : Addr} {f : Str} {y : V} {u : Value} {bmB : List Value} {B newId : String}
/-- the first field is stored: the object has its dict now -/
theorem put_first {Q : Unit → Shared → Prop} {E : Value → Shared → Prop} {A : Around} (SF : StoreFacts B bmB "object.__setattr__" "object") (T : OexB X.K C bmB newId) (I : Inv X pins σ H s) (ea : H a = some (exo a C none)) (hno : PySem.W.findIn X.K (.ref C) f = some none) (ry : RelV y u)
    (h : ∀ dx s', H dx = none → dx ≠ a → Inv X pins σ (upd (upd H dx (exd dx [(f, y)])) a (exo a C (some dx))) s' → Q () s') : wpAny (model X.prog X.w) A (setAttr (.ref a) f u) Q E s := by
  obtain ⟨t1, ho⟩ := exo_at I.hok ea
  obtain ⟨cd, hcd, hdict⟩ := PySem.W.any_some T.hd
  obtain ⟨hp, g, dr, tk, os⟩ := s
  refine PySem.W.set_plain (od := none) I.kIn ⟨ho, rfl, rfl, trivial⟩ T.sa ?_
  refine PySem.W.osa_openX (od := none) SF I.kIn ⟨ho, rfl, rfl, trivial⟩ T.ov (taker_of hno) fun b => ?_
  have lt : a < hp.objs.size := Heap.lt_size ho
  refine wpAny_bind (wpAny_pure (wpAny_bind (PySem.W.instanceDict_exc ho (PySem.W.looks_clsIn I.kIn hcd) hdict ?_)))
  show wpAny _ _ (Builtin.ObjectAttr.storeInDict hp.objs.size _ f u) _ _ _
  have ne : a ≠ hp.objs.size := Nat.ne_of_lt lt
  refine PySem.HandSPX.store_in_new ?_ fun g1 tk1 hns same => ?_
  · exact ⟨_, #[], _, (Heap.get?_update_ne _ _ _ _ (Ne.symm ne)).trans (Heap.get?_push_at rfl rfl), rfl, fun e he => absurd he (by simp), fun _ => rfl⟩
  have old : ∀ b o, b ≠ a → hp.get? b = some o → g1.get? b = some o := fun b o hb e => (same.2 b (Nat.ne_of_lt (Heap.lt_size e))).trans ((Heap.get?_update_ne _ _ _ _ hb).trans (Heap.get?_push_of_some _ e))
  have now : g1.get? a = some { cls := .ref C, dict := some hp.objs.size, data := .fields #[.ref t1, .none, .none, .none, .bool false, .none] } := (same.2 a ne).trans (Heap.get?_update_self _ (Heap.get?_push_of_some _ ho) rfl)
  have fresh : H hp.objs.size = none := I.hok.fresh (Nat.le_refl _)
  have apart : ∀ {b : Addr} {o : Obj}, hp.get? b = some o → b ≠ hp.objs.size := fun e => Nat.ne_of_lt (Heap.lt_size e)
  have off : ∀ {b : Addr}, H b = none → b ≠ a := fun n z => by rw [z, ea] at n; cases n
  have U : Un X.fs [] H (upd (upd H hp.objs.size (exd hp.objs.size [(f, y)])) a (exo a C (some hp.objs.size))) hp g1 := {
    keep := fun b o e n _ _ => old b o (off n) e
    slot := fun b o e n _ _ => ⟨o.slots, old b o (off n) e⟩
    free := fun b o e n _ => (upd_ne (off n)).trans ((upd_ne (apart e)).trans n)
    there := fun b o e _ => if hb : b = a then ⟨_, hb ▸ now⟩ else ⟨o, old b o hb e⟩
    tups := fun b xs e => (upd_ne (at_ne ea e exo_tup)).trans ((upd_ne (ne_of_none e fresh)).trans e)
    frzs := fun b o v e => (upd_ne (at_ne ea e exo_frz)).trans ((upd_ne (ne_of_none e fresh)).trans e)
    tbls := fun b ps e => ⟨#[], by rw [upd_ne (at_ne ea e exo_tbl), upd_ne (ne_of_none e fresh), e]; simp⟩ }
  refine h hp.objs.size _ fresh (Ne.symm ne) (I.un (t' := tk1) U fun b o q => ?_)
  by_cases hb : b = a
  · rw [hb] at q ⊢
    rw [upd_same] at q
    cases q
    exact exo_ok now
  rw [upd_ne hb] at q
  by_cases hx : b = hp.objs.size
  · rw [hx] at q ⊢
    rw [upd_same] at q
    cases q
    exact exd_ok hns (relO_put (fs := []) ry fun _ => True.intro)
  rw [upd_ne hx] at q
  refine (I.hok b o q).stay (fun c v hc e => old c v ?_ e) (fun c hc => (upd_ne (at_ne ea hc exo_own)).trans ((upd_ne (ne_of_none hc fresh)).trans hc)) (fun c xs hc => (upd_ne (at_ne ea hc exo_tup)).trans ((upd_ne (ne_of_none hc fresh)).trans hc))
  rcases hc with hc | hc
  · rw [hc]
    exact hb
  · exact at_ne ea hc exo_own
end
/-- self.f = e in such an __init__ -/
def sFst (K : PySem.W.Frag) (bmB : List Value) (newId : String) (f : Str) (to te : TE) : TS := fun D σ H => te σ H fun y H1 => to σ H1 fun x H2 => ∃ a C : Addr, x = .ref a ∧ OexB K C bmB newId ∧ PySem.W.findIn K (.ref C) f = some none ∧ H2 a = some (exo a C none) ∧
  ∀ dx, H2 dx = none → dx ≠ a → D.nx σ (upd (upd H2 dx (exd dx [(f, y)])) a (exo a C (some dx)))
section
variable {X : Cx} {bmB : List Value} {B newId initId : String} {o e : Expr} {to te : TE} {f : Str} {p' pos : Pos}
theorem ps_fst (SF : StoreFacts B bmB "object.__setattr__" "object") (ho : PE X o to) (he : PE X e te) (hs : swapsWith e (some (.Attribute o f p')) pos.line X.env = pure false := by rfl) : PS X (.Assign [.Attribute o f p'] e pos) (sFst X.K bmB newId f to te) := by
  refine ⟨fun pins s σ H D I h => plainObj_wpAny_Assign_Attribute (thn (he.run pins s σ H _ I h) fun v s1 ⟨y, H1, I1, r1, q1⟩ => thn (ho.run pins s1 σ H1 _ I1 q1) fun u s2 ⟨x, H2, I2, r2, a, C, ex, T, hno, ea, q⟩ => ?_) hs⟩
  subst ex
  obtain rfl : u = Value.ref a := r2
  exact put_first SF T I2 ea hno r1 fun dx s' n ne J => ⟨σ, _, J, q dx n ne⟩
/-- C(e), as an exception that is made -/
theorem pmk_exb {CX : CXT} {x : Str} {C fI : Addr} {k : Nat} {fd : FuncData} {ps : List Str} {sp : Sp} {es : List Expr} {ta : TA} {p : Pos} (FB : ExcBaseFacts B newId initId bmB) (T : OexB X.K C bmB newId) (iC : PySem.W.findIn X.K (.ref C) "__init__" = some (some (.ref fI))) (tI : PySem.W.typeIn X.K (.ref fI) = some (.type "function"))
    (F1 : FnOk X.prog X.w X.K X.mg X.base CX k fI fd ps sp) (hr : Room (k + 1) X.A) (hb : Binds X.K fd ps []) (hx : Passes CX X (fun _ _ _ => False)) (hg : Gl X x) (hm : X.mg x = some (.ref C)) (ha : PA X (e :: es) ta)
    (hdb : (x == ("__debug__" : Str)) = false := by decide) (he : starEach (e :: es) X.env = (false, eval e X.env) :: starEach es X.env := by rfl) (hpl : (backTo pos (starEach es X.env)).any (·.1) = false := by rfl) :
    PMk X (.Call (.Name x p) (e :: es) [] pos) (tMkO C sp [] ta) := by
  intro pins s σ H Q I h
  refine wpAny_Call_Name_kw (ld_glob I hg hm ?_ hdb)
  refine PySem.W.callWith_K (h₀ := X.base) I.ok.mod.kin T.kC (thn (ha.run pos pins s σ H _ I h) fun us s1 ⟨vs, H1, I1, r1, hz, q1⟩ => ⟨I1.kIn, ?_⟩) he hpl
  show wpAny _ _ (call (.ref C) us) _ _ _
  obtain ⟨nm, N, qn, bs, bm, hdct, sn, sub, ab, col, dd, k0, k1, k2, k3, k5, hC, hT⟩ := PySem.W.excInit_of I1.kIn T.ini
  obtain ⟨hp, g, dr, tk, os⟩ := s1
  have le : hp.objs.size ≤ hp.objs.size + 1 := Nat.le_succ _
  have free := I1.hok.fresh le
  have q2 := q1 _ free
  rw [List.append_nil] at q2
  have up : ∀ b o, hp.get? b = some o → ((hp.push (PySem.W.kdv_tup us)).push (PySem.HandSPX.excO C hp.objs.size)).get? b = some o := fun b o e => Heap.get?_push_of_some _ (Heap.get?_push_of_some _ e)
  have mine : ((hp.push (PySem.W.kdv_tup us)).push (PySem.HandSPX.excO C hp.objs.size)).get? (hp.objs.size + 1) = some (PySem.HandSPX.excO C hp.objs.size) := by heap_get
  have I2 := I1.laid (t' := tk) (a := hp.objs.size + 1) (o := exo (hp.objs.size + 1) C none) (h' := (hp.push (PySem.W.kdv_tup us)).push (PySem.HandSPX.excO C hp.objs.size)) up le (exo_ok mine)
  have r2 : Vals (V.ref (hp.objs.size + 1) :: vs) (Value.ref (hp.objs.size + 1) :: us) := .cons rfl r1
  have hl : (Value.ref (hp.objs.size + 1) :: us ++ []).length = ps.length := by
    rw [List.append_nil, ← r2.length]
    exact F1.len _ _ _ _ q2
  have bd := hb ⟨(hp.push (PySem.W.kdv_tup us)).push (PySem.HandSPX.excO C hp.objs.size), g, dr, tk, os⟩ (Value.ref (hp.objs.size + 1) :: us) I2.kIn hl
  rw [List.append_nil] at bd
  have room : us.length ≤ sizeLine := by
    rw [← Paired.length r1, sizeLine_eq]
    omega
  refine wpAny_call (PySem.HandSPX.call_own FB hT hC (PySem.W.looks_findIn I1.kIn iC) (fun self => PySem.W.bind_fn I1.kIn self tI) room (codeAny_mono (F1.run _ X.stack _ _ ⟨Value.ref (hp.objs.size + 1) :: us, []⟩ (Value.ref (hp.objs.size + 1) :: us) _ _ (fun _ _ _ => False) (hr.make C us []) (I2.env0.make C us []) bd r2 q2) fun r s' z => ?_))
  cases r with
  | error er => exact hx pins σ _ _ er s' I2 z
  | ok fl =>
    cases fl with
    | ret u =>
      obtain ⟨v, H2, os2, bare2, un2, hok2, rv, ev, d, fs, e1, e2, n1, q3⟩ := z
      subst ev
      obtain ⟨h2, g2, d2, t2, os'⟩ := s'
      exact ⟨rv, mk_end (raises_own T.exC T.tyC) I1 le up un2 hok2 os2 bare2 e1 e2 n1 q3⟩
    | next => exact False.elim z
    | brk => exact False.elim z
    | cont => exact False.elim z
end
/-! ### raise C(e) -/
def spIniB (C : Addr) (f : Str) (bmB : List Value) (newId : String) (K : PySem.W.Frag) : Sp := fun vs H Q _ => ∃ (a : Addr) (v : V), vs = [.ref a, v] ∧ OexB K C bmB newId ∧ PySem.W.findIn K (.ref C) f = some none ∧ H a = some (exo a C none) ∧ ∀ dx, H dx = none → dx ≠ a → Q .non (upd (upd H dx (exd dx [(f, v)])) a (exo a C (some dx)))
theorem ok_iniB {P : Program} {w : World} {K : PySem.W.Frag} {mg : Str → Option Value} {base : Heap} {x qual f : Str} {st : Stmt} {fI C : Addr} {fd : FuncData} {bmB : List Value} {newId : String} (F : Fun K x qual st fI fd) (S : FnScope ["self", f] ["self", f] (defScope st))
    (walk : ∀ (cdv : Value) (A : Around) (outer : List Env) (s : Shared) (H : Hp) (E : XK), PSs (cxOf CX0 P w K mg base ["self", f] qual (defScope st) fI cdv A outer s H E).nox (defBody st) (sFst K bmB newId f (tVar 0) (tVar 1))) :
    FnOk P w K mg base CX0 1 fI fd ["self", f] (spIniB C f bmB newId K) := by
  refine F.ok (k := 0) S (fun vs H Q E h => ?_) (fun cdv A outer s H vs Q E hr h => ?_)
  · obtain ⟨a, v, rfl, _⟩ := h
    rfl
  · obtain ⟨a, v, rfl, T, hn, ea, q⟩ := h
    exact ⟨_, walk cdv A outer s H E, v, rfl, .ref a, rfl, a, C, rfl, T, hn, ea, fun dx n1 n2 => q dx n1 n2⟩
theorem ds_raiseB {X : Cx} {Vx : VX} {ct : Str → Value} {Wv : WX} {x n f : Str} {C fI : Addr} {fd : FuncData} {p pos pos' : Pos} {e : Expr} {we : DW} {bmB : List Value} {B newId initId : String} (FB : ExcBaseFacts B newId initId bmB) (hc : X.calm = true) (tk : Takes X Wv) (hV : ∀ n d σ H, Vx n d σ H → Wv (ct n) d σ H) (en : ct n = .ref C)
    (T : OexB X.K C bmB newId) (hno : PySem.W.findIn X.K (.ref C) f = some none) (iC : PySem.W.findIn X.K (.ref C) "__init__" = some (some (.ref fI))) (tI : PySem.W.typeIn X.K (.ref fI) = some (.type "function"))
    (F1 : FnOk X.prog X.w X.K X.mg X.base CX0 1 fI fd ["self", f] (spIniB C f bmB newId X.K)) (hr : Room 2 X.A) (hb : Binds X.K fd ["self", f] []) (hg : Gl X x) (hm : X.mg x = some (.ref C)) (he : DE X e we)
    (hdb : (x == ("__debug__" : Str)) = false := by decide) (hs : starEach [e] X.env = (false, eval e X.env) :: starEach [] X.env := by rfl) (hpl : (backTo pos' (starEach [] X.env)).any (·.1) = false := by rfl) :
    DSt X Vx (.Raise (some (.Call (.Name x p) [e] [] pos')) none pos) (wRaise1 n f we) := by
  refine PS.imp (ps_raise hc tk (pmk_exb (CX := CX0) (p := p) (pos := pos') FB T iC tI F1 hr hb pass0 hg hm (pa_cons he pa_nil hs) hdb hs hpl)) fun E σ H q => ?_
  obtain ⟨Γ, W, F, rfl, c, w, k⟩ := q
  refine ⟨Γ, W, _, rfl, c, w, fun xd W1 v w1 f1 k1 r1 => ⟨by show 1 ≤ 1000; decide, fun a na => ?_⟩⟩
  refine ⟨a, v, rfl, T, hno, upd_same, fun dx ndx hne => ⟨rfl, dx, [(f, v)], upd_same, ?_, ?_, ?_⟩⟩
  · rw [upd_ne hne, upd_same]
  · rw [upd_ne hne] at ndx
    exact ndx
  · rw [upd_ne hne] at ndx
    rw [del_upd na hne]
    have f2 : Fr W (W1.hide dx (.xd [(f, v)])) := f1.trans (Fr.hide ndx)
    have k2 : Ok X.K (W1.hide dx (.xd [(f, v)])) := k1.hide ndx
    have := hV n (some dx) σ (upd W1.H dx (.xd [(f, v)])) (k.ex Γ (W1.hide dx (.xd [(f, v)])) σ n [(f, xd)] (some dx) w1 f2 (c.fr f2 k2) ⟨[(f, v)], upd_same, k1.nil_ ndx, .inr rfl, .cons (r1.fr k1 (Fr.hide ndx)) .nil⟩ (fun b eb m => by
      cases eb
      cases z : W.H dx with
      | none => rfl
      | some o =>
        have := (f1 dx o m z).1
        rw [ndx] at this
        cases this))
    rw [en] at this
    exact this
end RS
set_option Elab.async false
set_option linter.all false
set_option maxRecDepth 100000
/-! Small rules for boards with exceptions. -/
namespace RS
open PySem PySem.Spec PyProof.Rows L2
/-- either class -/
abbrev okBC (b c : Addr) : Addr → Prop := fun C => C = b ∨ C = c
/-! ### a def that may raise, whose own objects are forgotten at its end -/
end RS
namespace RS
open PySem PySem.Spec PyProof.Rows L2
section
variable {X : Cx}
theorem Rvs.dropLast {K : PySem.W.Frag} {W : Wd} {vs : List V} {ds : List D} (h : Rvs K W vs ds) : Rvs K W vs.dropLast ds.dropLast := by
  rw [List.dropLast_eq_take, List.dropLast_eq_take, h.length]
  exact h.take _
end
end RS
set_option Elab.async false
set_option linter.all false
set_option maxRecDepth 100000
namespace RS
open PySem PySem.Spec PyProof.Rows L2 RS
def ringD (hs : List Int) : D := .tup (hs.map .int)
def RingOk (hs : List Int) : Prop := 1 ≤ hs.length ∧ hs.length ≤ 24 ∧ ∀ h ∈ hs, Ht h
def bF (L1 L2 : Addr) : List (Str × D) := [("states", .obj (.ref L1)), ("standing", .obj (.ref L2)), ("limits", .non)]
/-- a plain board at a; F: its objects -/
structure BoardM (cB : Addr) (M : Mem) (a : Addr) (F : List Addr) (rings : List (List Int)) (edits : List D) : Prop where
  ex : ∃ dx L1 L2, F = [a, L1, L2] ∧ M a = some (.ins cB dx (bF L1 L2)) ∧ M L1 = some (.dl (rings.map ringD)) ∧ M L2 = some (.dl edits) ∧ L1 ≠ L2
  len : rings.length = edits.length + 1
  few : edits.length ≤ 60
  ok : ∀ hs ∈ rings, RingOk hs
def UpdF (F : List Addr) (M M' : Mem) : Prop := ∀ b o, b ∉ F → M b = some o → M' b = some o
def NewF (F F' : List Addr) (M : Mem) : Prop := ∀ x ∈ F', x ∈ F ∨ M x = none
def g_is_tolerance : DSp := fun ds M P => ∃ t : Int, ds = [.int t] ∧ 0 ≤ t ∧ t ≤ 1000000000 ∧ P (.bl true) M
def g_check_place : DSp := fun ds M P => ∃ i n : Int, ds = [.int i, .int n] ∧ 0 ≤ i ∧ i < n ∧ P .non M
def g_check_height : DSp := fun ds M P => ∃ h : Int, ds = [.int h] ∧ Ht h ∧ P .non M
def g_check_tolerance : DSp := fun ds M P => ∃ t : Int, ds = [.int t] ∧ 0 ≤ t ∧ t ≤ 1000000000 ∧ P .non M
end RS
set_option Elab.async false
set_option linter.all false
set_option maxRecDepth 100000
/-! The methods of a plain board. -/
namespace RS
open PySem PySem.Spec PyProof.Rows L2
theorem bF_no {m : Str} (h : (["states", "standing", "limits"] : List Str).contains m = false) (L1 L2 : Addr) : (bF L1 L2).lookup m = none := by
  have h' : (m == "states") = false ∧ (m == "standing") = false ∧ (m == "limits") = false := by
    simp only [List.contains_cons, List.contains_nil, Bool.or_false, Bool.or_eq_false_iff] at h
    exact h
  unfold bF
  rw [List.lookup_cons, h'.1]
  dsimp only
  rw [List.lookup_cons, h'.2.1]
  dsimp only
  rw [List.lookup_cons, h'.2.2]
  rfl
section
variable {cB a : Addr} {M M' : Mem} {F F' : List Addr} {rings : List (List Int)} {edits : List D}
theorem BoardM.ins (b : BoardM cB M a F rings edits) {m : Str} (h : (["states", "standing", "limits"] : List Str).contains m = false) : ∃ fs, InsM (okB cB) M (.obj (.ref a)) cB fs ∧ fs.lookup m = none := by
  obtain ⟨dx, L1, L2, rfl, m1, _⟩ := b.ex
  exact ⟨bF L1 L2, ⟨a, dx, rfl, m1, rfl⟩, bF_no h L1 L2⟩
theorem BoardM.upd (b : BoardM cB M a F rings edits) (k : ∀ x ∈ F, ∀ o, M x = some o → M' x = some o) : BoardM cB M' a F rings edits := by
  obtain ⟨dx, L1, L2, rfl, m1, m2, m3, ne⟩ := b.ex
  exact ⟨⟨dx, L1, L2, rfl, k _ (by simp) _ m1, k _ (by simp) _ m2, k _ (by simp) _ m3, ne⟩, b.len, b.few, b.ok⟩
theorem BoardM.there (b : BoardM cB M a F rings edits) {x : Addr} (h : x ∈ F) : ∃ o, M x = some o := by
  obtain ⟨dx, L1, L2, rfl, m1, m2, m3, ne⟩ := b.ex
  simp only [List.mem_cons, List.not_mem_nil, or_false] at h
  rcases h with rfl | rfl | rfl
  · exact ⟨_, m1⟩
  · exact ⟨_, m2⟩
  · exact ⟨_, m3⟩
theorem UpdF.trans {M1 M2 : Mem} (a : UpdF F M M1) (b : UpdF F M1 M2) : UpdF F M M2 := fun x o n h => b x o n (a x o n h)
theorem NewF.refl : NewF F F M := fun _ h => .inl h
/-- what stands in the memory beside the board stays beside it -/
theorem NewF.out (n : NewF F F' M) {x : Addr} {o : MO} (h : M x = some o) (hx : x ∉ F) : x ∉ F' := fun z => by
  rcases n x z with y | y
  · exact hx y
  · rw [y] at h
    cases h
theorem deck_out {d l : Addr} {n : Int} (D : DeckM M d l n) (u : UpdF F M M') (hd : d ∉ F) (hl : l ∉ F) : DeckM M' d l n := by
  obtain ⟨cs, c1, c2, c3⟩ := D.cards
  exact ⟨u _ _ hd D.top, ⟨cs, u _ _ hl c1, c2, c3⟩, D.ne, D.n0⟩
theorem deck_there {d l : Addr} {n : Int} (D : DeckM M d l n) : (∃ o, M d = some o) ∧ ∃ o, M l = some o := by
  obtain ⟨cs, c1, _⟩ := D.cards
  exact ⟨⟨_, D.top⟩, ⟨_, c1⟩⟩
end
variable {cB : Addr}
theorem atI_lastD {α : Type} {xs : List α} {x : α} (h : xs.getLast? = some x) : atI xs (-1) = some x := by
  rw [List.getLast?_eq_getElem?] at h
  have hl : 0 < xs.length := by
    have := (List.getElem?_eq_some_iff.mp h).1
    omega
  unfold atI ixN
  rw [if_neg (by omega), if_pos (by omega), show ((-1 : Int) + (xs.length : Int)).toNat = xs.length - 1 by omega]
  exact h
theorem last_ring {rings : List (List Int)} {hs : List Int} (h : rings.getLast? = some hs) : (rings.map ringD).getLast? = some (ringD hs) := by rw [List.getLast?_map, h]; rfl
theorem put_ok {hs : List Int} {j : Nat} {h : Int} (ok : RingOk hs) (hj : j < hs.length) (hh : Ht h) : RingOk (putL hs j h) := by
  refine ⟨by rw [put_len hj]; exact ok.1, by rw [put_len hj]; exact ok.2.1, fun x hx => ?_⟩
  rw [put_set hj] at hx
  rcases List.mem_or_eq_of_mem_set hx with hx | rfl
  · exact ok.2.2 x hx
  · exact hh
theorem ins_ok {hs : List Int} {j : Nat} {h : Int} (ok : RingOk hs) (hj : j ≤ hs.length) (hl : hs.length < 24) (hh : Ht h) : RingOk (insL hs j h) := by
  refine ⟨by rw [ins_len hj]; omega, by rw [ins_len hj]; omega, fun x hx => ?_⟩
  unfold insL at hx
  rcases List.mem_append.mp hx with hx | hx
  · rcases List.mem_append.mp hx with hx | hx
    · exact ok.2.2 x (List.mem_of_mem_take hx)
    · rw [List.mem_singleton.mp hx]
      exact hh
  · exact ok.2.2 x (List.mem_of_mem_drop hx)
theorem del_ok {hs : List Int} {j : Nat} (ok : RingOk hs) (hj : j < hs.length) (hl : 1 < hs.length) : RingOk (delL hs j) := by
  refine ⟨by rw [del_len hj]; omega, by rw [del_len hj]; have := ok.2.1; omega, fun x hx => ?_⟩
  unfold delL at hx
  rcases List.mem_append.mp hx with hx | hx
  · exact ok.2.2 x (List.mem_of_mem_take hx)
  · exact ok.2.2 x (List.mem_of_mem_drop hx)
end RS
set_option Elab.async false
set_option linter.all false
set_option maxRecDepth 100000
namespace RS
open PySem PySem.Spec PyProof.Rows L2
theorem s_ss : ¬ ((Str.ofString "states") = (Str.ofString "standing")) := by decide +kernel
theorem s_sl : ¬ ((Str.ofString "states") = (Str.ofString "limits")) := by decide +kernel
theorem s_tl : ¬ ((Str.ofString "standing") = (Str.ofString "limits")) := by decide +kernel
theorem put1 (d : D) : putD "states" d [] = ([("states", d)] : List (Str × D)) := rfl
theorem put2 (d e : D) : putD "standing" e ([("states", d)] : List (Str × D)) = ([("states", d), ("standing", e)] : List (Str × D)) := by
  show (if (Str.ofString "states") = (Str.ofString "standing") then _ else _) = _
  rw [if_neg s_ss]
  rfl
theorem put3 (d e f : D) : putD "limits" f ([("states", d), ("standing", e)] : List (Str × D)) = ([("states", d), ("standing", e), ("limits", f)] : List (Str × D)) := by
  show (if (Str.ofString "states") = (Str.ofString "limits") then _ else _) = _
  rw [if_neg s_sl]
  show _ :: (if (Str.ofString "standing") = (Str.ofString "limits") then _ else _) = _
  rw [if_neg s_tl]
  rfl
variable {cB : Addr}
end RS
set_option Elab.async false
set_option linter.all false
set_option maxRecDepth 100000
/-! min of a list of pairs. -/
namespace RS
open PySem PySem.Spec PySem.Calls PyProof.Rows L2
end RS
set_option Elab.async false
set_option linter.all false
set_option maxRecDepth 100000
namespace RS
open PySem PySem.Spec PyProof.Rows L2
/-! ### any pair between which the ring can be straightened may go -/
theorem rest_any {hs : List Int} {q r : Nat} {S : List Nat} (hc : Cl (R2 hs) (q :: r :: S))
    (hx : ∀ p s, S.getLast? = some p → S.head? = some s → (hgt hs q < hgt hs r → hgt hs r ≤ hgt hs p ∧ hgt hs s ≤ hgt hs q) ∧ (hgt hs r < hgt hs q → hgt hs p ≤ hgt hs r ∧ hgt hs q ≤ hgt hs s)) :
    Cl (R2 hs) S ∧ ∀ lo hi : Int, lo < hi → cyc (marks (hts hs (q :: r :: S)) lo hi) = cyc (marks (hts hs S) lo hi) + (if hgt hs q < hgt hs r then inSw lo hi (hgt hs q) (hgt hs r) else inSw lo hi (hgt hs r) (hgt hs q)) := by
  obtain ⟨h1, h2⟩ := hc
  cases S with
  | nil =>
    refine ⟨trivial, ?_⟩
    intro lo hi hlh
    show cyc (marks [hgt hs q, hgt hs r] lo hi) = 0 + _
    rw [Nat.zero_add]
    by_cases h : hgt hs q < hgt hs r
    · rw [if_pos h]
      exact (cyc_two hlh h).1
    · rw [if_neg h]
      have h' : hgt hs r < hgt hs q := by
        have := h1.2
        split at this <;> omega
      exact (cyc_two hlh h').2
  | cons s T =>
    obtain ⟨rs, hT⟩ := h2
    obtain ⟨p, hp⟩ : ∃ p, (s :: T).getLast? = some p := ⟨_, List.getLast?_eq_getLast (List.cons_ne_nil s T)⟩
    have pq := ch_last _ _ _ _ hT hp
    obtain ⟨f1, f2⟩ := hx p s hp rfl
    have f3 : R2 hs p s := by
      unfold R2 at *
      cases hu : upAt hs p with
      | true =>
        rw [hu] at pq
        have uq : upAt hs q = false := pq.1
        rw [uq] at h1
        have ur : upAt hs r = true := h1.1
        rw [ur] at rs
        rw [if_pos rfl] at pq rs
        rw [if_neg Bool.false_ne_true] at h1
        have i2 := h1.2
        have i3 := rs.2
        obtain ⟨k1, k2⟩ := f2 i2
        refine ⟨rs.1, ?_⟩
        rw [if_pos rfl]
        omega
      | false =>
        rw [hu] at pq
        have uq : upAt hs q = true := pq.1
        rw [uq] at h1
        have ur : upAt hs r = false := h1.1
        rw [ur] at rs
        rw [if_neg Bool.false_ne_true] at pq rs
        rw [if_pos rfl] at h1
        have i2 := h1.2
        have i3 := rs.2
        obtain ⟨k1, k2⟩ := f1 i2
        refine ⟨rs.1, ?_⟩
        rw [if_neg Bool.false_ne_true]
        omega
    constructor
    · show Ch (R2 hs) s T s
      have gen : ∀ (l : List Nat) (a b b' : Nat), Ch (R2 hs) a l b → (∀ y, (a :: l).getLast? = some y → R2 hs y b') → Ch (R2 hs) a l b' := by
        intro l
        induction l with
        | nil =>
          intro a b b' _ h
          exact h a rfl
        | cons x l ih =>
          intro a b b' h h'
          refine ⟨h.1, ih x b b' h.2 fun y hy => h' y ?_⟩
          rw [List.getLast?_cons_cons]
          exact hy
      refine gen T s q s hT ?_
      intro y hy
      rw [hp] at hy
      rw [← Option.some.inj hy]
      exact f3
    · intro lo hi hlh
      have hh : (hts hs (s :: T)).head? = some (hgt hs s) := rfl
      have hl : (hts hs (s :: T)).getLast? = some (hgt hs p) := by
        unfold hts
        rw [List.getLast?_map, hp]
        rfl
      by_cases h : hgt hs q < hgt hs r
      · rw [if_pos h]
        obtain ⟨k1, k2⟩ := f1 h
        exact cyc_pair hlh hh hl h k1 k2
      · rw [if_neg h]
        have h' : hgt hs r < hgt hs q := by
          have := h1.2
          split at this <;> omega
        obtain ⟨k1, k2⟩ := f2 h'
        exact cyc_pair' hlh hh hl h' k1 k2
end RS
set_option Elab.async false
set_option linter.all false
set_option maxRecDepth 100000
/-! Pairs of neighbours that can be removed, found by their places among the turns that are left. -/
namespace RS
open PySem PySem.Spec PyProof.Rows L2
def rd (l : List Nat) (i : Nat) : Nat := l.getD (i % l.length) 0
theorem rd_mem {l : List Nat} (h : 0 < l.length) (i : Nat) : rd l i ∈ l := getD_mem (Nat.mod_lt _ h)
theorem getD_cut {l : List Nat} {m : Nat} (h : m < l.length) : l = l.take m ++ l.getD m 0 :: l.drop (m + 1) := by
  have e := List.take_append_drop m l
  rw [List.drop_eq_getElem_cons h] at e
  rw [List.getD_eq_getElem?_getD, List.getElem?_eq_getElem h]
  exact e.symm
theorem getD_take {l : List Nat} {m i : Nat} (h : i < m) : (l.take m).getD i 0 = l.getD i 0 := by
  rw [List.getD_eq_getElem?_getD, List.getD_eq_getElem?_getD, List.getElem?_take_of_lt h]
theorem getD_drop {l : List Nat} {m i : Nat} : (l.drop m).getD i 0 = l.getD (m + i) 0 := by
  rw [List.getD_eq_getElem?_getD, List.getD_eq_getElem?_getD, List.getElem?_drop]
theorem head_getD {l : List Nat} (h : l ≠ []) : l.head? = some (l.getD 0 0) := by
  cases l with
  | nil => exact absurd rfl h
  | cons a r => rfl
theorem last_getD {l : List Nat} (h : l ≠ []) : l.getLast? = some (l.getD (l.length - 1) 0) := by
  have hl : l.length - 1 < l.length := by
    have := List.length_pos_iff.mpr h
    omega
  rw [List.getLast?_eq_getElem?, List.getElem?_eq_getElem hl, List.getD_eq_getElem?_getD, List.getElem?_eq_getElem hl]
  rfl
theorem wo_keep {A B : List Nat} {q r : Nat} {pr : Nat × Nat} (hp : pr = (q, r) ∨ pr = (r, q)) (h : ∀ x, x ∈ A ∨ x ∈ B → x ≠ q ∧ x ≠ r) (L : List Nat) (hL : ∀ x ∈ L, x ∈ A ∨ x ∈ B) : L.filter (fun t => !(decide (t = pr.1) || decide (t = pr.2))) = L := by
  refine List.filter_eq_self.mpr fun x hx => ?_
  obtain ⟨h1, h2⟩ := h x (hL x hx)
  rcases hp with rfl | rfl <;> simp [h1, h2]
theorem wo_one {A B : List Nat} {q r : Nat} {pr : Nat × Nat} (hp : pr = (q, r) ∨ pr = (r, q)) (h : ∀ x, x ∈ A ∨ x ∈ B → x ≠ q ∧ x ≠ r) : without (A ++ q :: r :: B) pr = A ++ B := by
  have fq : (!(decide (q = pr.1) || decide (q = pr.2))) = false := by rcases hp with rfl | rfl <;> simp
  have fr : (!(decide (r = pr.1) || decide (r = pr.2))) = false := by rcases hp with rfl | rfl <;> simp
  unfold without
  rw [List.filter_append, List.filter_cons_of_neg (by rw [fq]; decide), List.filter_cons_of_neg (by rw [fr]; decide), wo_keep hp h A fun x hx => .inl hx, wo_keep hp h B fun x hx => .inr hx]
theorem wo_end {B : List Nat} {q r : Nat} {pr : Nat × Nat} (hp : pr = (q, r) ∨ pr = (r, q)) (h : ∀ x, x ∈ B → x ≠ q ∧ x ≠ r) : without (r :: (B ++ [q])) pr = B := by
  have fq : (!(decide (q = pr.1) || decide (q = pr.2))) = false := by rcases hp with rfl | rfl <;> simp
  have fr : (!(decide (r = pr.1) || decide (r = pr.2))) = false := by rcases hp with rfl | rfl <;> simp
  unfold without
  rw [List.filter_cons_of_neg (by rw [fr]; decide), List.filter_append, wo_keep (A := []) (B := B) hp (fun x hx => h x (by simpa using hx)) B fun x hx => .inr hx, List.filter_cons_of_neg (by rw [fq]; decide)]
  simp
/-- two neighbours, and what is left without them -/
theorem split2 {left : List Nat} (nd : left.Nodup) (hn : 2 ≤ left.length) (m : Nat) : ∃ A B : List Nat, left.length = (A ++ B).length + 2 ∧ (∀ pr, pr = (rd left m, rd left (m + 1)) ∨ pr = (rd left (m + 1), rd left m) → without left pr = A ++ B) ∧
    (∀ R : Nat → Nat → Prop, Cl R left → Cl R (rd left m :: rd left (m + 1) :: (B ++ A))) ∧ (∀ (hs : List Int) (lo hi : Int), cyc (marks (hts hs left) lo hi) = cyc (marks (hts hs (rd left m :: rd left (m + 1) :: (B ++ A))) lo hi)) ∧
    (2 < left.length → (B ++ A).head? = some (rd left (m + 2)) ∧ (B ++ A).getLast? = some (rd left (m + (left.length - 1)))) := by
  have hk : m % left.length < left.length := Nat.mod_lt _ (by omega)
  have e1 : rd left m = left.getD (m % left.length) 0 := rfl
  by_cases c : m % left.length + 1 < left.length
  · have e2 : rd left (m + 1) = left.getD (m % left.length + 1) 0 := by
      unfold rd
      rw [Nat.add_mod, Nat.mod_eq_of_lt (show 1 < left.length by omega), Nat.mod_eq_of_lt c]
    have el : left = left.take (m % left.length) ++ rd left m :: rd left (m + 1) :: left.drop (m % left.length + 2) := by
      have a := getD_cut hk
      have b := getD_cut (l := left.drop (m % left.length + 1)) (m := 0) (by rw [List.length_drop]; omega)
      rw [List.take_zero, List.nil_append, getD_drop, Nat.add_zero, List.drop_drop] at b
      rw [b] at a
      rw [e1, e2]
      exact a
    have la : (left.take (m % left.length)).length = m % left.length := by rw [List.length_take]; omega
    have lb : (left.drop (m % left.length + 2)).length = left.length - (m % left.length + 2) := List.length_drop
    refine ⟨left.take (m % left.length), left.drop (m % left.length + 2), by rw [List.length_append]; omega, fun pr hp => (congrArg (fun z => without z pr) el).trans (wo_one hp ?_), fun R h => ?_, fun hs lo hi => ?_, fun h3 => ⟨?_, ?_⟩⟩
    · intro x hx
      have nd' := nd
      rw [el] at nd'
      rw [List.nodup_append] at nd'
      obtain ⟨n1, n2, n3⟩ := nd'
      rw [List.nodup_cons, List.nodup_cons] at n2
      rcases hx with hx | hx
      · exact ⟨n3 x hx _ List.mem_cons_self, n3 x hx _ (List.mem_cons_of_mem _ List.mem_cons_self)⟩
      · exact ⟨fun z => n2.1 (by rw [← z]; exact List.mem_cons_of_mem _ hx), fun z => n2.2.1 (by rw [← z]; exact hx)⟩
    · rw [el] at h
      exact cl_rot _ _ h
    · conv => lhs; rw [el]
      exact cyc_rotL hs _ _ lo hi
    · by_cases hB : left.drop (m % left.length + 2) = []
      · rw [hB, List.nil_append]
        have hz : m % left.length + 2 = left.length := by
          rw [hB] at lb
          have : (0 : Nat) = left.length - (m % left.length + 2) := lb
          omega
        have hA : left.take (m % left.length) ≠ [] := fun z => by
          rw [z] at la
          have : (0 : Nat) = m % left.length := la
          omega
        rw [head_getD hA, getD_take (by omega)]
        unfold rd
        rw [Nat.add_mod, Nat.mod_eq_of_lt (show 2 < left.length by omega), hz, Nat.mod_self]
      · rw [List.head?_append, head_getD hB, getD_drop]
        show some (left.getD (m % left.length + 2 + 0) 0) = _
        have : m % left.length + 2 < left.length := by
          have := List.length_pos_iff.mpr hB
          omega
        unfold rd
        rw [Nat.add_mod m 2, Nat.mod_eq_of_lt (show 2 < left.length by omega), Nat.mod_eq_of_lt this]
    · by_cases hA : left.take (m % left.length) = []
      · have h0 : m % left.length = 0 := by
          rw [hA] at la
          exact la.symm
        rw [hA, List.append_nil, last_getD (fun z => by rw [z] at lb; have : (0 : Nat) = _ := lb; omega), getD_drop, lb]
        have em : (m + (left.length - 1)) % left.length = left.length - 1 := by
          obtain ⟨t, ht⟩ : ∃ t, m = left.length * t := ⟨m / left.length, by have := Nat.div_add_mod m left.length; omega⟩
          rw [ht, Nat.mul_add_mod, Nat.mod_eq_of_lt (by omega)]
        unfold rd
        rw [em]
        congr 2
        omega
      · rw [List.getLast?_append, last_getD hA, la, getD_take (by have := List.length_pos_iff.mpr hA; omega)]
        show some (left.getD (m % left.length - 1) 0) = _
        have : 0 < m % left.length := by
          have := List.length_pos_iff.mpr hA
          omega
        unfold rd
        have em : (m + (left.length - 1)) % left.length = m % left.length - 1 := by
          rw [Nat.add_mod, Nat.mod_eq_of_lt (show left.length - 1 < left.length by omega)]
          have : m % left.length + (left.length - 1) = (m % left.length - 1) + left.length := by omega
          rw [this, Nat.add_mod_right, Nat.mod_eq_of_lt (by omega)]
        rw [em]
  · have hz : m % left.length + 1 = left.length := by omega
    have e2 : rd left (m + 1) = left.getD 0 0 := by
      unfold rd
      rw [Nat.add_mod, Nat.mod_eq_of_lt (show 1 < left.length by omega), hz, Nat.mod_self]
    have el : left = rd left (m + 1) :: ((left.drop 1).take (left.length - 2) ++ [rd left m]) := by
      have a := getD_cut (l := left) (m := 0) (by omega)
      have b := getD_cut (l := left.drop 1) (m := left.length - 2) (by rw [List.length_drop]; omega)
      rw [getD_drop, List.drop_drop, List.drop_eq_nil_of_le (show left.length ≤ 1 + (left.length - 2 + 1) by omega)] at b
      rw [List.take_zero, List.nil_append] at a
      rw [e1, e2, show m % left.length = 1 + (left.length - 2) by omega]
      rw [← b]
      exact a
    have lb : ((left.drop 1).take (left.length - 2)).length = left.length - 2 := by rw [List.length_take, List.length_drop]; omega
    refine ⟨[], (left.drop 1).take (left.length - 2), by rw [List.nil_append]; omega, fun pr hp => (congrArg (fun z => without z pr) el).trans (wo_end hp ?_), fun R h => ?_, fun hs lo hi => ?_, fun h3 => ⟨?_, ?_⟩⟩
    · intro x hx
      have nd' := nd
      rw [el, List.nodup_cons, List.nodup_append] at nd'
      obtain ⟨n1, n2, n3, n4⟩ := nd'
      exact ⟨n4 x hx _ List.mem_cons_self, fun z => n1 (by rw [← z]; exact List.mem_append_left _ hx)⟩
    · rw [el, ← List.cons_append] at h
      rw [List.append_nil]
      exact cl_rot _ _ h
    · conv => lhs; rw [el, ← List.cons_append]
      rw [List.append_nil]
      exact cyc_rotL hs _ _ lo hi
    · rw [List.append_nil, head_getD (fun z => by rw [z] at lb; have : (0 : Nat) = _ := lb; omega), getD_take (by omega), getD_drop]
      unfold rd
      have em : (m + 2) % left.length = 1 := by
        rw [Nat.add_mod, Nat.mod_eq_of_lt (show 2 < left.length by omega), show m % left.length + 2 = 1 + left.length by omega, Nat.add_mod_right, Nat.mod_eq_of_lt (by omega)]
      rw [em]
    · rw [List.append_nil, last_getD (fun z => by rw [z] at lb; have : (0 : Nat) = _ := lb; omega), lb, getD_take (by omega), getD_drop]
      unfold rd
      have em : (m + (left.length - 1)) % left.length = left.length - 2 := by
        rw [Nat.add_mod, Nat.mod_eq_of_lt (show left.length - 1 < left.length by omega), show m % left.length + (left.length - 1) = (left.length - 2) + left.length by omega, Nat.add_mod_right, Nat.mod_eq_of_lt (by omega)]
      rw [em]
      congr 2
      omega
/-- what the laws find between the four turns from k on -/
def rmAt (hs : List Int) (left : List Nat) (k : Nat) : List (Nat × Nat) :=
  (if hgt hs (rd left k) ≤ hgt hs (rd left (k + 2)) ∧ hgt hs (rd left (k + 2)) < hgt hs (rd left (k + 1)) ∧ hgt hs (rd left (k + 1)) ≤ hgt hs (rd left (k + 3)) then [(rd left (k + 2), rd left (k + 1))] else []) ++
  (if hgt hs (rd left (k + 2)) ≤ hgt hs (rd left k) ∧ hgt hs (rd left (k + 1)) < hgt hs (rd left (k + 2)) ∧ hgt hs (rd left (k + 3)) ≤ hgt hs (rd left (k + 1)) then [(rd left (k + 1), rd left (k + 2))] else [])
def rmv (hs : List Int) (left : List Nat) : List (Nat × Nat) := (List.range left.length).flatMap (rmAt hs left)
structure RmStep (hs : List Int) (left : List Nat) (pr : Nat × Nat) : Prop where
  cl : Cl (R2 hs) (without left pr)
  nd : (without left pr).Nodup
  len : (without left pr).length + 2 = left.length
  m1 : pr.1 ∈ left
  m2 : pr.2 ∈ left
  lt : hgt hs pr.1 < hgt hs pr.2
  cnt : ∀ lo hi : Int, lo < hi → cyc (marks (hts hs left) lo hi) = inSw lo hi (hgt hs pr.1) (hgt hs pr.2) + cyc (marks (hts hs (without left pr)) lo hi)
  ext : 2 < left.length → (∃ x ∈ without left pr, hgt hs pr.2 ≤ hgt hs x) ∧ ∃ x ∈ without left pr, hgt hs x ≤ hgt hs pr.1
theorem rd_mod {l : List Nat} {i j : Nat} (h : i % l.length = j % l.length) : rd l i = rd l j := by unfold rd; rw [h]
theorem pair_step {hs : List Int} {left : List Nat} (hc : Cl (R2 hs) left) (nd : left.Nodup) (hn : 2 ≤ left.length) (m : Nat) {pr : Nat × Nat} (hp : pr = (rd left m, rd left (m + 1)) ∨ pr = (rd left (m + 1), rd left m)) (hlt : hgt hs pr.1 < hgt hs pr.2)
    (hx : 2 < left.length → (hgt hs (rd left m) < hgt hs (rd left (m + 1)) → hgt hs (rd left (m + 1)) ≤ hgt hs (rd left (m + (left.length - 1))) ∧ hgt hs (rd left (m + 2)) ≤ hgt hs (rd left m)) ∧ (hgt hs (rd left (m + 1)) < hgt hs (rd left m) → hgt hs (rd left (m + (left.length - 1))) ≤ hgt hs (rd left (m + 1)) ∧ hgt hs (rd left m) ≤ hgt hs (rd left (m + 2)))) : RmStep hs left pr := by
  obtain ⟨A, B, hl, hw, hr, hcy, hends⟩ := split2 nd hn m
  have hw' := hw pr hp
  obtain ⟨c3, hcount⟩ := rest_any (hr _ hc) (fun p s hp' hs' => by
    have h3 : 2 < left.length := by
      cases hS : B ++ A with
      | nil => rw [hS] at hp'; cases hp'
      | cons a r =>
        have : (B ++ A).length = r.length + 1 := by rw [hS]; rfl
        rw [List.length_append] at this hl
        omega
    obtain ⟨e1, e2⟩ := hends h3
    rw [e1] at hs'
    rw [e2] at hp'
    cases hs'
    cases hp'
    exact hx h3)
  have mq : rd left m ∈ left := rd_mem (by omega) m
  have mr : rd left (m + 1) ∈ left := rd_mem (by omega) (m + 1)
  refine ⟨by rw [hw']; exact cl_rot B A c3, nd.filter _, by rw [hw']; omega, ?_, ?_, hlt, fun lo hi hlh => ?_, fun h3 => ?_⟩
  · rcases hp with rfl | rfl
    · exact mq
    · exact mr
  · rcases hp with rfl | rfl
    · exact mr
    · exact mq
  · rw [hcy, hcount lo hi hlh, hw', cyc_rotL hs A B lo hi]
    rcases hp with rfl | rfl
    · rw [if_pos hlt]
      exact Nat.add_comm _ _
    · have : ¬ hgt hs (rd left m) < hgt hs (rd left (m + 1)) := by
        have : hgt hs (rd left (m + 1)) < hgt hs (rd left m) := hlt
        omega
      rw [if_neg this]
      exact Nat.add_comm _ _
  · obtain ⟨e1, e2⟩ := hends h3
    obtain ⟨x1, x2⟩ := hx h3
    have mh : rd left (m + 2) ∈ without left pr := by
      rw [hw', List.mem_append, or_comm, ← List.mem_append]
      exact List.mem_of_mem_head? e1
    have ml : rd left (m + (left.length - 1)) ∈ without left pr := by
      rw [hw', List.mem_append, or_comm, ← List.mem_append]
      exact List.mem_of_getLast? e2
    rcases hp with rfl | rfl
    · exact ⟨⟨_, ml, (x1 hlt).1⟩, ⟨_, mh, (x1 hlt).2⟩⟩
    · exact ⟨⟨_, mh, (x2 hlt).2⟩, ⟨_, ml, (x2 hlt).1⟩⟩
theorem back_one {left : List Nat} (h : 0 < left.length) (k : Nat) : rd left (k + 1 + (left.length - 1)) = rd left k := rd_mod (by rw [show k + 1 + (left.length - 1) = k + left.length by omega, Nat.add_mod_right])
theorem rmAt_cases {hs : List Int} {left : List Nat} {k : Nat} {pr : Nat × Nat} (h : pr ∈ rmAt hs left k) :
    (pr = (rd left (k + 2), rd left (k + 1)) ∧ hgt hs (rd left k) ≤ hgt hs (rd left (k + 2)) ∧ hgt hs (rd left (k + 2)) < hgt hs (rd left (k + 1)) ∧ hgt hs (rd left (k + 1)) ≤ hgt hs (rd left (k + 3))) ∨
    (pr = (rd left (k + 1), rd left (k + 2)) ∧ hgt hs (rd left (k + 2)) ≤ hgt hs (rd left k) ∧ hgt hs (rd left (k + 1)) < hgt hs (rd left (k + 2)) ∧ hgt hs (rd left (k + 3)) ≤ hgt hs (rd left (k + 1))) := by
  unfold rmAt at h
  rcases List.mem_append.mp h with h | h
  · split at h
    · rename_i c
      exact .inl ⟨List.mem_singleton.mp h, c⟩
    · cases h
  · split at h
    · rename_i c
      exact .inr ⟨List.mem_singleton.mp h, c⟩
    · cases h
theorem rmv_step {hs : List Int} {left : List Nat} (hc : Cl (R2 hs) left) (nd : left.Nodup) (hn : 2 ≤ left.length) {pr : Nat × Nat} (h : pr ∈ rmv hs left) : RmStep hs left pr := by
  obtain ⟨k, _, hk⟩ := List.mem_flatMap.mp h
  have eb := back_one (left := left) (by omega) k
  rcases rmAt_cases hk with ⟨e, h1, h2, h3⟩ | ⟨e, h1, h2, h3⟩
  · refine pair_step hc nd hn (k + 1) (.inr e) (by rw [e]; exact h2) fun _ => ⟨fun z => absurd z (by show ¬ hgt hs (rd left (k + 1)) < hgt hs (rd left (k + 2)); omega), fun _ => ?_⟩
    rw [eb]
    exact ⟨h1, h3⟩
  · refine pair_step hc nd hn (k + 1) (.inl e) (by rw [e]; exact h2) fun _ => ⟨fun _ => ?_, fun z => absurd z (by show ¬ hgt hs (rd left (k + 2)) < hgt hs (rd left (k + 1)); omega)⟩
    rw [eb]
    exact ⟨h1, h3⟩
/-- removed one after another, down to two -/
inductive Rmd (hs : List Int) : List Nat → List (Nat × Nat) → Prop
  | nil : Rmd hs [] []
  | last {a b : Nat} {pr : Nat × Nat} : pr = (a, b) ∨ pr = (b, a) → hgt hs pr.1 < hgt hs pr.2 → Rmd hs [a, b] [pr]
  | cons {left : List Nat} {pr : Nat × Nat} {prs : List (Nat × Nat)} : 2 < left.length → pr ∈ rmv hs left → Rmd hs (without left pr) prs → Rmd hs left (pr :: prs)
theorem Rmd.ok {hs : List Int} {left : List Nat} {prs : List (Nat × Nat)} (h : Rmd hs left prs) : Cl (R2 hs) left → left.Nodup → RemOk hs left prs := by
  have step : ∀ {left : List Nat} {pr : Nat × Nat} {prs : List (Nat × Nat)}, RmStep hs left pr → RemOk hs (without left pr) prs → RemOk hs left (pr :: prs) := fun {left pr prs} st ih => by
    refine ⟨fun lo hi hlh => ?_, fun x hx => ?_, ?_⟩
    · rw [st.cnt lo hi hlh, ih.cnt lo hi hlh]
      unfold swCount
      rw [List.map_cons, List.map_cons, List.sum_cons]
      rfl
    · rcases List.mem_cons.mp hx with rfl | hx
      · exact ⟨st.m1, st.m2, st.lt⟩
      · obtain ⟨a, b, c⟩ := ih.mem x hx
        exact ⟨(List.mem_filter.mp a).1, (List.mem_filter.mp b).1, c⟩
    · have := ih.len
      have := st.len
      rw [List.length_cons]
      omega
  induction h with
  | nil => exact fun _ _ => ⟨fun _ _ _ => rfl, (fun pr h => nomatch h), rfl⟩
  | @last a b pr hp hlt =>
    intro hc nd
    have st : RmStep hs [a, b] pr := pair_step hc nd (by show 2 ≤ 2; decide) 0 hp hlt fun h => absurd h (by show ¬ 2 < 2; decide)
    have hw : without [a, b] pr = [] := List.eq_nil_of_length_eq_zero (by have := st.len; have e : [a, b].length = 2 := rfl; omega)
    refine step st ?_
    rw [hw]
    exact ⟨fun _ _ _ => rfl, (fun pr h => nomatch h), rfl⟩
  | cons hn hm _ ih =>
    intro hc nd
    have st := rmv_step hc nd (by omega) hm
    exact step st (ih st.cl st.nd)
end RS
set_option Elab.async false
set_option linter.all false
set_option maxRecDepth 100000
/-! Data with dicts in it: its repr. -/
namespace RS
open PySem PySem.Spec PyProof.Rows L2
mutual
inductive Rds (h : Heap) : Value → PyData → Prop
  | known {v : Value} {d : PyData} {as : List Addr} : Reads h v d as → (d.hasDict = true → sysModules ∉ as) → Rds h v d
  | list {a : Addr} {o : Obj} {vs : Array Value} {n : Nat} {xs : List PyData} : h.get? a = some o → o.cls = .type "list" → o.data = .seq vs n → RdsAll h vs.toList xs → Rds h (.ref a) (.list xs)
  | tuple {a : Addr} {o : Obj} {vs : Array Value} {n : Nat} {xs : List PyData} : h.get? a = some o → o.cls = .type "tuple" → o.data = .seq vs n → RdsAll h vs.toList xs → Rds h (.ref a) (.tuple xs)
inductive RdsAll (h : Heap) : List Value → List PyData → Prop
  | nil : RdsAll h [] []
  | cons {v : Value} {vs : List Value} {d : PyData} {ds : List PyData} : Rds h v d → RdsAll h vs ds → RdsAll h (v :: vs) (d :: ds)
end
section
variable {prog : Program} {w : World} {h₀ : Heap}
mutual
theorem Rds.reads : ∀ {v : Value} {d : PyData}, Rds h₀ v d → ∃ as, Reads h₀ v d as
  | _, _, .known r _ => ⟨_, r⟩
  | _, _, .list h1 h2 h3 h4 => let ⟨_, r⟩ := RdsAll.reads h4; ⟨_, .list h1 h2 h3 r⟩
  | _, _, .tuple h1 h2 h3 h4 => let ⟨_, r⟩ := RdsAll.reads h4; ⟨_, .tuple h1 h2 h3 r⟩
theorem RdsAll.reads : ∀ {vs : List Value} {ds : List PyData}, RdsAll h₀ vs ds → ∃ as, ReadsAll h₀ vs ds as
  | _, _, .nil => ⟨_, .nil⟩
  | _, _, .cons a b => let ⟨_, r⟩ := Rds.reads a; let ⟨_, q⟩ := RdsAll.reads b; ⟨_, .cons r q⟩
end
mutual
theorem Rds.reprK : ∀ {v : Value} {d : PyData}, Rds h₀ v d → d.showable = true → d.shown.length ≤ sizeLine → ∃ bs, ReadAtMost h₀ d.depth bs ∧ ReprK prog w bs h₀ d.depth v d.shown
  | _, _, .known r hm, hs, hz => ReprK.of_reads r hs hm hz
  | _, _, .list (a := a) (vs := vs) (xs := xs) h1 h2 h3 h4, hs, hz => by
    have hz' : (listText (PyData.shownAll xs)).length ≤ sizeLine := by simpa only [PyData.shown] using hz
    obtain ⟨bs, hb, hk⟩ := RdsAll.reprK h4 (by simpa [PyData.showable] using hs) (fun t ht => Nat.le_trans (listText_mem_le ht) hz')
    obtain ⟨as, ra⟩ := RdsAll.reads h4
    have r : Reads h₀ (.ref a) (.list xs) _ := .list h1 h2 h3 ra
    have hna : a ∉ bs := not_mem_of_deeper r (by simp only [PyData.depth]; omega) hb
    refine ⟨a :: bs, ReadAtMost.cons r (by simp only [PyData.depth]; omega) hb, ?_⟩
    simp only [PyData.depth, PyData.shown]
    obtain ⟨l⟩ := vs
    cases l with
    | nil =>
      have h4' : RdsAll h₀ [] xs := h4
      cases h4'
      simp only [PyData.shownAll, listText_nil]
      exact ReprK.listEmpty h1 h2 h3
    | cons x l => exact ReprK.list h1 h2 h3 hna (by simpa using hk.length_eq) (fun i y e => hk.item i y (by simpa using e))
  | _, _, .tuple (a := a) (xs := xs) h1 h2 h3 h4, hs, hz => by
    have hz' : (tupleText (PyData.shownAll xs)).length ≤ sizeLine := by simpa only [PyData.shown] using hz
    obtain ⟨bs, hb, hk⟩ := RdsAll.reprK h4 (by simpa [PyData.showable] using hs) (fun t ht => Nat.le_trans (tupleText_mem_le ht) hz')
    obtain ⟨as, ra⟩ := RdsAll.reads h4
    have r : Reads h₀ (.ref a) (.tuple xs) _ := .tuple h1 h2 h3 ra
    have hna : a ∉ bs := not_mem_of_deeper r (by simp only [PyData.depth]; omega) hb
    refine ⟨a :: bs, ReadAtMost.cons r (by simp only [PyData.depth]; omega) hb, ?_⟩
    simp only [PyData.depth, PyData.shown]
    exact ReprK.tuple h1 h2 h3 hna hk
theorem RdsAll.reprK : ∀ {vs : List Value} {ds : List PyData}, RdsAll h₀ vs ds → PyData.showableAll ds = true → (∀ t ∈ PyData.shownAll ds, t.length ≤ sizeLine) →
    ∃ bs, ReadAtMost h₀ (PyData.depthAll ds) bs ∧ ReprAllK prog w bs h₀ (PyData.depthAll ds) vs (PyData.shownAll ds)
  | _, _, .nil, _, _ => ⟨[], (fun _ h => nomatch h), by simp only [PyData.shownAll]; exact .nil⟩
  | _, _, .cons (d := d) (ds := ds) r rs, hs, hz => by
    have hs' : d.showable = true ∧ PyData.showableAll ds = true := by simpa [PyData.showableAll] using hs
    obtain ⟨b1, hb1, k1⟩ := Rds.reprK r hs'.1 (hz _ (by simp only [PyData.shownAll]; exact List.mem_cons_self ..))
    obtain ⟨b2, hb2, k2⟩ := RdsAll.reprK rs hs'.2 (fun t ht => hz t (by simp only [PyData.shownAll]; exact List.mem_cons_of_mem _ ht))
    refine ⟨b1 ++ b2, ?_, ?_⟩
    · intro b hm
      simp only [PyData.depthAll]
      rcases List.mem_append.mp hm with hm | hm
      · obtain ⟨d', as', r', hd'⟩ := hb1 b hm
        exact ⟨d', as', r', Nat.le_trans hd' (Nat.le_max_left _ _)⟩
      · obtain ⟨d', as', r', hd'⟩ := hb2 b hm
        exact ⟨d', as', r', Nat.le_trans hd' (Nat.le_max_right _ _)⟩
    · simp only [PyData.depthAll, PyData.shownAll]
      exact .cons ((k1.more fun b hb => List.mem_append_left _ hb).level_le (Nat.le_max_left _ _)) (k2.more_le (fun b hb => List.mem_append_right _ hb) (Nat.le_max_right _ _))
end
theorem Rds.shows {a : Addr} {d : PyData} (r : Rds h₀ (.ref a) d) (hs : d.showable = true) (hsz : d.shown.length ≤ sizeLine) : ∃ T idr, ShowsBy prog w h₀ a d T idr := by
  cases r with
  | known r hm => exact showsBy_of_reads r hs hm hsz
  | list h1 h2 h3 h4 =>
    rename_i o vs n xs
    have hz' : (listText (PyData.shownAll xs)).length ≤ sizeLine := by simpa only [PyData.shown] using hsz
    obtain ⟨bs, hb, hk⟩ := RdsAll.reprK (prog := prog) (w := w) h4 (by simpa [PyData.showable] using hs) (fun t ht => Nat.le_trans (listText_mem_le ht) hz')
    obtain ⟨as, ra⟩ := RdsAll.reads h4
    have hna : a ∉ bs := not_mem_of_deeper (.list h1 h2 h3 ra) (by simp only [PyData.depth]; omega) hb
    refine ⟨"list", "list.__repr__", F.slot_list_repr.toG, F.slot_list_str, F.slot_list_format, fun s hk0 => ⟨o, hk0 _ _ h1, h2⟩, fun A E s Q hg hu hk0 hQ => ?_⟩
    simp only [PyData.depth] at hu
    simp only [PyData.shown] at hQ
    obtain ⟨l⟩ := vs
    cases l with
    | nil =>
      have h4' : RdsAll h₀ [] xs := h4
      cases h4'
      simp only [PyData.shownAll, listText_nil] at hQ
      exact call_list_repr_empty ⟨o, hk0 _ _ h1, h2⟩ (hk0 _ _ h1) h3 (hQ s.heap _ _ fun _ _ e => e)
    | cons x l =>
      exact call_list_reprK h1 h2 h3 hna (by simpa using hk.length_eq) (fun i y e => hk.item i y (by simpa using e)) hg (fun b _ => Clear.nil b) hu hk0 hQ hz'
  | tuple h1 h2 h3 h4 =>
    rename_i o vs n xs
    have hz' : (tupleText (PyData.shownAll xs)).length ≤ sizeLine := by simpa only [PyData.shown] using hsz
    obtain ⟨bs, hb, hk⟩ := RdsAll.reprK (prog := prog) (w := w) h4 (by simpa [PyData.showable] using hs) (fun t ht => Nat.le_trans (tupleText_mem_le ht) hz')
    obtain ⟨as, ra⟩ := RdsAll.reads h4
    have hna : a ∉ bs := not_mem_of_deeper (.tuple h1 h2 h3 ra) (by simp only [PyData.depth]; omega) hb
    refine ⟨"tuple", "tuple.__repr__", F.slot_tuple_repr, F.slot_tuple_str, F.slot_tuple_format, fun s hk0 => ⟨o, hk0 _ _ h1, h2⟩, fun A E s Q hg hu hk0 hQ => ?_⟩
    simp only [PyData.depth] at hu
    simp only [PyData.shown] at hQ
    exact call_tuple_reprK h1 h2 h3 hna hk hg (fun b _ => Clear.nil b) hu hk0 hQ hz'
end
/-! ### data -/
mutual
def D.okd : D → Bool
  | .non => true
  | .bl _ => true
  | .int _ => true
  | .str _ => true
  | .tup ds => D.okds ds
  | .lst ds => D.okds ds
  | .obj _ => false
  | .dct _ => true
  | .tpf _ => false
def D.okds : List D → Bool
  | [] => true
  | d :: ds => d.okd && D.okds ds
end
/-- a dict of texts and ints, read -/
theorem dct_reads {prog : Program} {w : World} {h : Heap} : ∀ {kvs : List (Str × Int)} {vs : List (Key × Value)} {es : List DictEntry}, KV (dkOf kvs) vs → PySem.Pairs (mixKind prog w) es vs →
    ReadsAll h (es.map (·.key)) ((kvs.map fun p => (PyData.str p.1, PyData.int p.2)).map (·.1)) [] ∧ ReadsAll h (es.map (·.val)) ((kvs.map fun p => (PyData.str p.1, PyData.int p.2)).map (·.2)) []
  | [], _, _, r, q => by
    cases r
    cases q
    exact ⟨.nil, .nil⟩
  | p :: kvs, _, _, r, q => by
    cases r with
    | cons r1 r2 =>
      cases q with
      | cons q1 q2 q3 =>
        obtain ⟨a, b⟩ := dct_reads r2 q3
        obtain ⟨e1, e2⟩ := r1
        have e1' : Sum.inr p.1 = _ := e1
        rw [← e1'] at q1
        obtain ⟨i, t, z, _⟩ | ⟨x, t, z, zz⟩ := keyIs_shape (show keyIs (Sum.inr p.1) _ = true from q1)
        · cases z
        · cases z
          obtain ⟨t', e2'⟩ := e2
          refine ⟨?_, ?_⟩
          · show ReadsAll h (_ :: _) (PyData.str p.1 :: _) ([] ++ [])
            refine .cons ?_ a
            dsimp only
            rw [zz]
            exact .str _ _
          · show ReadsAll h (_ :: _) (PyData.int p.2 :: _) ([] ++ [])
            refine .cons ?_ b
            dsimp only
            rw [q2, e2']
            exact .int _ _
section
variable {X : Cx} {pins : List (Addr × Obj)} {σ : L2.St} {s : Shared} {W : Wd}
mutual
theorem Rv.rds (I : Inv X pins σ W.H s) : ∀ (d : D) {v : V} {u : Value}, Rv X.K W v d → d.okd = true → RelV v u → Rds s.heap u d.py
  | .non, _, _, h, _, r => by
    cases h
    cases r
    exact .known .none fun z => by simp [PyData.hasDict, D.py] at z
  | .bl b, _, _, h, _, r => by
    cases h
    cases r
    exact .known (.bool b) fun z => by simp [PyData.hasDict, D.py] at z
  | .int i, _, _, h, _, r => by
    cases h
    obtain ⟨t, rfl⟩ := r
    exact .known (.int i t) fun z => by simp [PyData.hasDict, D.py] at z
  | .str x, _, _, h, _, r => by
    cases h
    obtain ⟨t, rfl⟩ := r
    exact .known (.str x t) fun z => by simp [PyData.hasDict, D.py] at z
  | .tup ds, _, _, h, o, r => by
    cases h with
    | tup s1 t1 =>
      cases r
      obtain ⟨its, rv, ⟨o', ho, hc, n, hd⟩, _⟩ := I.tuple s1.sq
      simp only [D.py]
      exact .tuple ho hc hd (Rvs.rds I ds t1 (by simpa [D.okd] using o) rv)
  | .lst ds, _, _, h, o, r => by
    cases h with
    | lst s1 t1 =>
      cases r
      obtain ⟨its, rv, ⟨o', n, ho, hc, _, hd⟩, _⟩ := I.list s1.sq
      simp only [D.py]
      exact .list ho hc hd (Rvs.rds I ds t1 (by simpa [D.okd] using o) rv)
  | .obj v, _, _, h, o, r => by simp [D.okd] at o
  | .tpf v, _, _, h, o, r => by simp [D.okd] at o
  | .dct kvs, _, _, h, o, r => by
    cases h with
    | dct s1 =>
      cases r
      obtain ⟨_, hno, vs, rel, ob, es, ep, e1, e2, e3, _, e4, _⟩ := I.hok _ _ s1.1
      obtain ⟨a, b⟩ := dct_reads (h := s.heap) rel e4
      simp only [D.py]
      refine .known (.dict e1 ?_ e3 a b) fun _ hm => ?_
      · exact e2.1
      · rcases List.mem_append.mp hm with hm | hm
        · rcases List.mem_cons.mp hm with hm | hm
          · rw [← hm] at hno
            simp at hno
          · cases hm
        · cases hm
theorem Rvs.rds (I : Inv X pins σ W.H s) : ∀ (ds : List D) {vs : List V} {us : List Value}, Rvs X.K W vs ds → D.okds ds = true → Vals vs us → RdsAll s.heap us (D.pys ds)
  | [], _, _, h, _, r => by
    cases h
    cases r
    exact .nil
  | d :: ds, _, _, h, o, r => by
    simp only [D.okds, Bool.and_eq_true] at o
    cases h with
    | cons a b =>
      cases r with
      | cons r1 r2 => exact .cons (Rv.rds I d a o.1 r1) (Rvs.rds I ds b o.2 r2)
end
end
/-- data whose repr is asked -/
structure D.fineD (d : D) : Prop where
  okd : d.okd = true
  sh : d.py.showable = true
  dp : d.py.depth ≤ 60
  sz : d.py.shown.length ≤ sizeLine
def reprX : GN
  | [d], M, P => d.fineD ∧ P (.str d.py.shown) M
  | _, _, _ => False
theorem cd_reprX {X : Cx} (hgd : X.A.guards = some []) (hu : X.A.units + 64 < cLine) : CallD X (.builtin "repr") reprX := by
  intro pins s σ H xs us Q I r h
  obtain ⟨W, ds, P, rfl, ok, rs, g, k⟩ := h
  unfold reprX at g
  split at g
  · rename_i _ M' P'' d
    obtain ⟨v0, rfl, q0⟩ := rvs1 rs
    obtain ⟨u, rfl, ru⟩ := vals1 r
    obtain ⟨⟨f1, f2, f3, f4⟩, g⟩ := g
    have rd := Rv.rds I d q0 f1 ru
    have big : ∀ a, u = .ref a → wpAny (model X.prog X.w) X.A (call (.builtin "repr") [u]) (EP X pins σ Q) X.xe s := fun a e => by
      subst e
      obtain ⟨T, idr, S⟩ := Rds.shows (prog := X.prog) (w := X.w) rd f2 f4
      refine call_repr_slot (by omega) (S.typeIs s fun _ _ e => e) S.slotRepr (S.call X.A.in1 _ s _ hgd (by show X.A.units + 1 + d.py.depth < cLine; omega) (fun _ _ e => e) fun h' u tk hk => ⟨_, _, rfl, ?_⟩)
      exact ⟨.str _, W.H, I.kept hk, ⟨u, rfl⟩, k.now ok (.str _) g⟩
    cases q0 with
    | non =>
      cases ru
      exact PySem.P.repr_of_none ⟨.str _, W.H, I.tok _, ⟨_, rfl⟩, by simpa only [PyData.shown, D.py] using k.now ok (.str _) g⟩
    | bl b =>
      cases ru
      exact PySem.P.repr_of_bool ⟨.str _, W.H, I.tok _, ⟨_, rfl⟩, by simpa only [PyData.shown, D.py] using k.now ok (.str _) g⟩
    | int i =>
      obtain ⟨t, rfl⟩ := ru
      have hi : i.natAbs.log2 < 1920 := by simpa [PyData.showable, D.py] using f2
      exact PySem.P.repr_of_int hi ⟨.str _, W.H, I.tok _, ⟨_, rfl⟩, by simpa only [PyData.shown, D.py] using k.now ok (.str _) g⟩
    | str z =>
      obtain ⟨t, rfl⟩ := ru
      have hz' : (reprText z).length ≤ sizeLine := by simpa only [PyData.shown, D.py] using f4
      exact PySem.P.repr_of_str ⟨.str _, W.H, I.tok _, ⟨_, rfl⟩, by simpa only [PyData.shown, D.py] using k.now ok (.str _) g⟩ hz'
    | tup a b =>
      cases ru
      exact big _ rfl
    | lst a b =>
      cases ru
      exact big _ rfl
    | tpf a b => simp [D.okd] at f1
    | dct a =>
      cases ru
      exact big _ rfl
    | obj v => simp [D.okd] at f1
  · exact g.elim
/-! ### {} and {text: number} -/
def wDct (kvs : List (Str × Int)) : DW := fun _ M P => P (.dct kvs) M
theorem Rv.newD {K : PySem.W.Frag} {W : Wd} {p : Addr} {kvs : List (Str × Int)} : Rv K (W.add p (.dK (dkOf kvs))) (.ref p) (.dct kvs) := .dct ⟨upd_same, fun z => z.2 rfl⟩
theorem de_dct0 {X : Cx} {e : Expr} (h : PE X e tDNewK) : DE X e (wDct []) := PE.imp h fun σ H Q q => by
  obtain ⟨Γ, W, P, rfl, c, w, k⟩ := q
  exact fun p np => k (.dct []) (W.add p (.dK (dkOf []))) (.ref p) w (Fr.add np) (c.ok.add np) Rv.newD
/-! ### a list != [], whatever is in it -/
end RS
set_option Elab.async false
set_option linter.all false
set_option maxRecDepth 100000
/-! Values of any kind: how large, how deep; their repr. -/
namespace RS
open PySem PySem.Spec PyProof.Rows L2
mutual
def Clm : D → Prop
  | .non => True
  | .bl _ => True
  | .int i => i.natAbs < 2 ^ 100
  | .str x => (reprText x).length ≤ 100
  | .tup ds => Clms ds
  | .lst ds => Clms ds
  | .obj _ => False
  | .dct kvs => kvs = [] ∨ kvs = [(Str.ofString "a", 1)] ∨ kvs = [(Str.ofString "a", 0)]
  | .tpf _ => False
def Clms : List D → Prop
  | [] => True
  | d :: ds => Clm d ∧ Clms ds
end
mutual
def D.size : D → Nat
  | .tup ds => D.sizes ds + 1
  | .lst ds => D.sizes ds + 1
  | .non => 1
  | .bl _ => 1
  | .int _ => 1
  | .str _ => 1
  | .obj _ => 1
  | .dct _ => 1
  | .tpf _ => 1
def D.sizes : List D → Nat
  | [] => 0
  | d :: ds => d.size + D.sizes ds
end
mutual
def D.deep : D → Nat
  | .tup ds => D.deeps ds + 1
  | .lst ds => D.deeps ds + 1
  | .non => 0
  | .bl _ => 0
  | .int _ => 0
  | .str _ => 0
  | .obj _ => 0
  | .dct _ => 1
  | .tpf _ => 1
def D.deeps : List D → Nat
  | [] => 0
  | d :: ds => max d.deep (D.deeps ds)
end
theorem Clms.iff : ∀ {ds : List D}, Clms ds ↔ ∀ d ∈ ds, Clm d
  | [] => by simp [Clms]
  | d :: ds => by
    simp only [Clms, List.mem_cons, forall_eq_or_imp]
    rw [Clms.iff]
theorem deeps_le {k : Nat} : ∀ {ds : List D}, D.deeps ds ≤ k ↔ ∀ d ∈ ds, d.deep ≤ k
  | [] => by simp [D.deeps]
  | d :: ds => by
    simp only [D.deeps, List.mem_cons, forall_eq_or_imp]
    rw [← deeps_le]
    omega
theorem sizes_ints (hs : List Int) : D.sizes (hs.map D.int) = hs.length := by
  induction hs with
  | nil => rfl
  | cons h hs ih =>
    show 1 + D.sizes (hs.map D.int) = _
    rw [ih, List.length_cons]
    omega
structure Val (S k : Nat) (d : D) : Prop where
  clm : Clm d
  sz : d.size ≤ S
  dp : d.deep ≤ k
theorem Val.mono {S S' k k' : Nat} {d : D} (v : Val S k d) (h1 : S ≤ S') (h2 : k ≤ k') : Val S' k' d := ⟨v.clm, Nat.le_trans v.sz h1, Nat.le_trans v.dp h2⟩
theorem Val.tup {S k : Nat} {ds : List D} (hc : ∀ d ∈ ds, Clm d) (hs : D.sizes ds ≤ S) (hd : ∀ d ∈ ds, d.deep ≤ k) : Val (S + 1) (k + 1) (.tup ds) :=
  ⟨by simp only [Clm]; exact Clms.iff.mpr hc, by simp only [D.size]; omega, by simp only [D.deep]; exact Nat.succ_le_succ (deeps_le.mpr hd)⟩
theorem Val.lst {S k : Nat} {ds : List D} (hc : ∀ d ∈ ds, Clm d) (hs : D.sizes ds ≤ S) (hd : ∀ d ∈ ds, d.deep ≤ k) : Val (S + 1) (k + 1) (.lst ds) :=
  ⟨by simp only [Clm]; exact Clms.iff.mpr hc, by simp only [D.size]; omega, by simp only [D.deep]; exact Nat.succ_le_succ (deeps_le.mpr hd)⟩
/-- what a value's items are -/
theorem Val.items {S k : Nat} {ds : List D} (v : Val S k (.tup ds)) : (∀ d ∈ ds, Clm d) ∧ D.sizes ds + 1 ≤ S ∧ ∀ d ∈ ds, d.deep + 1 ≤ k := by
  obtain ⟨a, b, c⟩ := v
  simp only [Clm] at a
  simp only [D.size] at b
  simp only [D.deep] at c
  refine ⟨Clms.iff.mp a, b, fun d hd => ?_⟩
  have := deeps_le.mp (Nat.le_refl (D.deeps ds)) d hd
  omega
theorem dct_shown : (PyData.shown (.dict [])).length ≤ 100 ∧ (PyData.shown (.dict [(.str (Str.ofString "a"), .int 1)])).length ≤ 100 ∧ (PyData.shown (.dict [(.str (Str.ofString "a"), .int 0)])).length ≤ 100 := by
  refine ⟨?_, ?_, ?_⟩
  · simp only [PyData.shown, PyData.shownKv]
    decide +kernel
  · simp only [PyData.shown, PyData.shownKv]
    decide +kernel
  · simp only [PyData.shown, PyData.shownKv]
    decide +kernel
mutual
theorem Clm.facts : ∀ d : D, Clm d → d.okd = true ∧ d.py.showable = true ∧ d.py.shown.length + 2 ≤ 105 * d.size ∧ d.py.depth ≤ d.deep
  | .non, _ => ⟨rfl, rfl, by simp only [D.py, PyData.shown, D.size]; decide +kernel, by simp only [D.py, PyData.depth, D.deep]; exact Nat.le_refl _⟩
  | .bl b, _ => ⟨rfl, rfl, by cases b <;> (simp only [D.py, PyData.shown, D.size]; decide +kernel), by simp only [D.py, PyData.depth, D.deep]; exact Nat.le_refl _⟩
  | .int i, h => by
    have h' : i.natAbs < 2 ^ 100 := by simpa only [Clm] using h
    have hl := log_of_abs (B := 100) (by decide) h'
    refine ⟨rfl, ?_, ?_, by simp only [D.py, PyData.depth, D.deep]; exact Nat.le_refl _⟩
    · simp only [D.py, PyData.showable]
      exact decide_eq_true (by omega)
    · simp only [D.py, PyData.shown, D.size]
      rw [PySem.ofString_length]
      have := int_text_length_le (k := 100) (by decide) hl
      omega
  | .str x, h => by
    have h' : (reprText x).length ≤ 100 := by simpa only [Clm] using h
    refine ⟨rfl, by simp only [D.py, PyData.showable], ?_, by simp only [D.py, PyData.depth, D.deep]; exact Nat.le_refl _⟩
    simp only [D.py, PyData.shown, D.size]
    omega
  | .tup ds, h => by
    obtain ⟨a, b, c, e⟩ := Clms.facts ds (by simpa only [Clm] using h)
    have t := tupleText_le (PyData.shownAll (D.pys ds))
    refine ⟨by simp only [D.okd]; exact a, by simp only [D.py, PyData.showable]; exact b, ?_, ?_⟩
    · simp only [D.py, PyData.shown, D.size]
      omega
    · simp only [D.py, PyData.depth, D.deep]
      omega
  | .lst ds, h => by
    obtain ⟨a, b, c, e⟩ := Clms.facts ds (by simpa only [Clm] using h)
    have t := listText_le (PyData.shownAll (D.pys ds))
    refine ⟨by simp only [D.okd]; exact a, by simp only [D.py, PyData.showable]; exact b, ?_, ?_⟩
    · simp only [D.py, PyData.shown, D.size]
      omega
    · simp only [D.py, PyData.depth, D.deep]
      omega
  | .obj v, h => by simp [Clm] at h
  | .tpf v, h => by simp [Clm] at h
  | .dct kvs, h => by
    have h' : kvs = [] ∨ kvs = [(Str.ofString "a", 1)] ∨ kvs = [(Str.ofString "a", 0)] := by simpa only [Clm] using h
    rcases h' with rfl | rfl | rfl
    · refine ⟨rfl, by simp only [D.py, PyData.showable, PyData.showableKv, List.map_nil], ?_, by simp only [D.py, List.map_nil, PyData.depth, PyData.depthKv, D.deep]; decide⟩
      have := dct_shown.1
      simp only [D.py, List.map_nil, D.size]
      omega
    · refine ⟨rfl, by simp only [D.py, PyData.showable, PyData.showableKv, List.map_cons, List.map_nil]; decide, ?_, by simp only [D.py, List.map_cons, List.map_nil, PyData.depth, PyData.depthKv, D.deep]; decide⟩
      have := dct_shown.2.1
      simp only [D.py, List.map_cons, List.map_nil, D.size]
      omega
    · refine ⟨rfl, by simp only [D.py, PyData.showable, PyData.showableKv, List.map_cons, List.map_nil]; decide, ?_, by simp only [D.py, List.map_cons, List.map_nil, PyData.depth, PyData.depthKv, D.deep]; decide⟩
      have := dct_shown.2.2
      simp only [D.py, List.map_cons, List.map_nil, D.size]
      omega
theorem Clms.facts : ∀ ds : List D, Clms ds → D.okds ds = true ∧ PyData.showableAll (D.pys ds) = true ∧ piled (PyData.shownAll (D.pys ds)) ≤ 105 * D.sizes ds ∧ PyData.depthAll (D.pys ds) ≤ D.deeps ds
  | [], _ => ⟨rfl, rfl, by simp only [D.pys, PyData.shownAll, D.sizes]; decide, by simp only [D.pys, PyData.depthAll, D.deeps]; exact Nat.le_refl _⟩
  | d :: ds, h => by
    have h' : Clm d ∧ Clms ds := by simpa only [Clms] using h
    obtain ⟨a1, b1, c1, e1⟩ := Clm.facts d h'.1
    obtain ⟨a2, b2, c2, e2⟩ := Clms.facts ds h'.2
    refine ⟨by simp only [D.okds, a1, a2, Bool.and_self], by simp only [D.pys, PyData.showableAll, b1, b2, Bool.and_self], ?_, ?_⟩
    · simp only [D.pys, PyData.shownAll, piled_cons, D.sizes]
      omega
    · simp only [D.pys, PyData.depthAll, D.deeps]
      omega
end
theorem Val.fine {S k : Nat} {d : D} (v : Val S k d) (hS : S ≤ 100000) (hk : k ≤ 60) : d.fineD := by
  obtain ⟨a, b, c, e⟩ := Clm.facts d v.clm
  have h1 := v.sz
  have h2 := v.dp
  refine ⟨a, b, by omega, ?_⟩
  rw [sizeLine_eq]
  omega
theorem Clm.known {d : D} (h : Clm d) : d.known = true := by
  cases d with
  | obj v => simp [Clm] at h
  | tpf v => simp [Clm] at h
  | _ => rfl
end RS
set_option Elab.async false
set_option linter.all false
set_option maxRecDepth 100000
namespace RS
open PySem PySem.Spec PyProof.Rows L2 RS
end RS
set_option Elab.async false
set_option linter.all false
set_option maxRecDepth 100000
namespace RS
open PySem PySem.Spec PyProof.Rows L2 RS
theorem cpow9 : CPow 10 9 := by unfold CPow; decide
end RS
set_option Elab.async false
set_option linter.all false
set_option maxRecDepth 100000
/-! The laws' own turns, and the pairs that they find removable. -/
namespace RS
open PySem PySem.Spec PyProof.Rows L2
theorem Sub.updM {M M' : Mem} {a : Addr} {o : MO} (h : Sub M M') (n : M a = Option.none) : Sub M (updM M' a o) := fun b u z => by
  have : b ≠ a := fun e => by
    rw [e, n] at z
    cases z
  rw [updM_ne this]
  exact h b u z
theorem Sub.rfl' {M : Mem} : Sub M M := fun _ _ z => z
end RS
set_option Elab.async false
set_option linter.all false
set_option maxRecDepth 100000
/-! Zigzags of any value judged (k23, k24): what is asked, and the transformers. -/
namespace RS
open PySem PySem.Spec PyProof.Rows L2
section
variable {X : Cx}
/-! a list of one's own != [] -/
def neNilO : G2
  | .obj (.ref a), .lst [], M, P => ∃ xs, M a = some (.dl xs) ∧ P (.bl (!xs.isEmpty)) M
  | _, _, _, _ => False
theorem od_neNilO (hu : X.A.units + 64 < cLine) : OpD X (compareOp .NotEq) neNilO := by
  intro pins s σ H x y v u Q I rx ry h
  obtain ⟨W, dx, dy, P, rfl, ok, r1, r2, g, k⟩ := h
  cases r1 with
  | obj x =>
    cases x with
    | ref a1 =>
      cases r2 with
      | lst s2 t2 =>
        rename_i a2 vs2 ds2
        cases ds2 with
        | cons d ds => exact (show False from g).elim
        | nil =>
          obtain ⟨xs, m, g⟩ := g
          obtain ⟨_, vs1, eH, t1⟩ := ok.m a1 _ m
          have sq : SqL X.K W.H a1 vs1 := .inl (.inl eH)
          cases t2
          cases rx
          cases ry
          obtain ⟨its, rv, pl, _⟩ := I.list sq
          obtain ⟨its2, rv2, pl2, _⟩ := I.list s2.sq
          cases rv2
          cases xs with
          | nil =>
            cases t1
            cases rv
            exact SeqAt.RcNeAt.lists (e := fun _ => true) pl.isList pl2.isList rfl (by omega) (fun j h => absurd h (by simp)) X.prog X.w _ _ ⟨.bl _, W.H, I, rfl, k.now ok (.bl _) g⟩
          | cons d ds =>
            cases t1
            cases rv
            exact SeqAt.RcNeAt.lists_lengths pl.isList pl2.isList (by simp) (by omega) X.prog X.w _ _ ⟨.bl _, W.H, I, rfl, k.now ok (.bl _) g⟩
      | _ => exact (show False from g).elim
    | _ => cases r2 <;> exact (show False from g).elim
  | _ => cases r2 <;> exact (show False from g).elim
/-! a list of one's own: a sum of lists -/
end
/-! what is asked -/
end RS
set_option Elab.async false
set_option linter.all false
set_option maxRecDepth 100000
namespace RS
open PySem PySem.Spec PyProof.Rows L2 RS
inductive Ed where
  | put (j : Nat) (h : Int) | ins (j : Nat) (h : Int) | rem (j : Nat)
def Ed.d : Ed → D
  | .put j h => .tup [.str (Str.ofString "put"), .int (j : Nat), .int h]
  | .ins j h => .tup [.str (Str.ofString "insert"), .int (j : Nat), .int h]
  | .rem j => .tup [.str (Str.ofString "remove"), .int (j : Nat)]
def Ed.ok (hs : List Int) : Ed → Prop
  | .put j h => j < hs.length ∧ Ht h
  | .ins j h => j ≤ hs.length ∧ hs.length < 24 ∧ Ht h
  | .rem j => j < hs.length ∧ 1 < hs.length
def Ed.app (hs : List Int) : Ed → List Int
  | .put j h => putL hs j h
  | .ins j h => insL hs j h
  | .rem j => delL hs j
def gRingE : DSp := fun ds M P => ∃ (d l : Addr) (n most : Int), ds = [.obj (.ref d), .int most] ∧ DeckM M d l n ∧ n < 2 ^ 38 ∧ 1 ≤ most ∧ most ≤ 24 ∧ ∀ M' n' (hs : List Int), DeckM M' d l n' → n ≤ n' → n' ≤ n + 60 → KeepM d l M M' → RingOk hs → (hs.length : Int) ≤ most → P (ringD hs) M'
def gEditE : DSp := fun ds M P => ∃ (d l : Addr) (n : Int) (hs : List Int), ds = [.obj (.ref d), ringD hs] ∧ DeckM M d l n ∧ n < 2 ^ 38 ∧ RingOk hs ∧ ∀ M' n' (e : Ed), DeckM M' d l n' → n ≤ n' → n' ≤ n + 8 → KeepM d l M M' → e.ok hs → P e.d M'
def gAfterE : DSp := fun ds M P => ∃ (hs : List Int) (e : Ed), ds = [ringD hs, e.d] ∧ RingOk hs ∧ e.ok hs ∧ P (ringD (e.app hs)) M
def w_ringE_b0 : DS := wIf (wAndT (wCmpT neNilO (wName 5) (wN gLstN (wNil))) (wCmpT eqD (wN gDraw (wCons (wName 0) (wCons (wC (.int 5)) (wNil)))) (wC (.int 0)))) (wDrop (wApp (wName 5) (wOp ixD (wName 5) (wUn negD (wC (.int 1)))))) (wDrop (wApp (wName 5) (wOp addD (wName 4) (wN gDraw (wCons (wName 0) (wCons (wOp addD (wName 3) (wC (.int 1))) (wNil)))))))
def w_ringE : DS := wSeq (wSet 2 (wOp addD (wC (.int 1)) (wN gDraw (wCons (wName 0) (wCons (wName 1) (wNil)))))) (wSeq (wSet 3 (wOp ixD (wN gLstN (wCons (wC (.int 2)) (wCons (wC (.int 4)) (wCons (wC (.int 9)) (wCons (wC (.int 30)) (wNil)))))) (wN gDraw (wCons (wName 0) (wCons (wC (.int 4)) (wNil)))))) (wSeq (wSet 4 (wOp ixD (wN gLstN (wCons (wC (.int 0)) (wCons (wUn negD (wC (.int 5))) (wCons (wOp subD (wOp powD (wC (.int 10)) (wC (.int 9))) (wName 3)) (wCons (wUn negD (wOp powD (wC (.int 10)) (wC (.int 9)))) (wNil)))))) (wN gDraw (wCons (wName 0) (wCons (wC (.int 4)) (wNil)))))) (wSeq (wSetOwn 5 (wLstO (wNil))) (wSeq (wFrz 5 (wFor (wRng1 (wCons (wName 2) (wNil))) (Tg.nm 6) (w_ringE_b0))) (wRet (wN tupleD (wCons (wName 5) (wNil))))))))
def w_editE : DS := wSeq (wSet 2 (wOp addD (wOp ixD (wName 1) (wN gDraw (wCons (wName 0) (wCons (wN lenD (wCons (wName 1) (wNil))) (wNil))))) (wOp ixD (wN gLstN (wCons (wC (.int 0)) (wCons (wC (.int 1)) (wCons (wUn negD (wC (.int 1))) (wCons (wC (.int 3)) (wCons (wUn negD (wC (.int 7))) (wNil))))))) (wN gDraw (wCons (wName 0) (wCons (wC (.int 5)) (wNil))))))) (wSeq (wSet 2 (wOp ixD (wN gLstN (wCons (wName 2) (wCons (wName 2) (wCons (wOp subD (wN gDraw (wCons (wName 0) (wCons (wC (.int 40)) (wNil)))) (wC (.int 20))) (wCons (wOp powD (wC (.int 10)) (wC (.int 9))) (wCons (wUn negD (wOp powD (wC (.int 10)) (wC (.int 9)))) (wNil))))))) (wN gDraw (wCons (wName 0) (wCons (wC (.int 5)) (wNil)))))) (wSeq (wSet 2 (wN maxD (wCons (wUn negD (wOp powD (wC (.int 10)) (wC (.int 9)))) (wCons (wN minD (wCons (wOp powD (wC (.int 10)) (wC (.int 9))) (wCons (wName 2) (wNil)))) (wNil))))) (wSeq (wSet 3 (wN gDraw (wCons (wName 0) (wCons (wC (.int 4)) (wNil))))) (wSeq (wIf (wAndT (wCmpT eqD (wName 3) (wC (.int 0))) (wCmpT ltD (wN lenD (wCons (wName 1) (wNil))) (wC (.int 24)))) (wRet (wN gTupN (wCons (wC (.str (Str.ofString "insert"))) (wCons (wN gDraw (wCons (wName 0) (wCons (wOp addD (wN lenD (wCons (wName 1) (wNil))) (wC (.int 1))) (wNil)))) (wCons (wName 2) (wNil)))))) (wNext)) (wSeq (wIf (wAndT (wCmpT eqD (wName 3) (wC (.int 1))) (wCmpT gtD (wN lenD (wCons (wName 1) (wNil))) (wC (.int 1)))) (wRet (wN gTupN (wCons (wC (.str (Str.ofString "remove"))) (wCons (wN gDraw (wCons (wName 0) (wCons (wN lenD (wCons (wName 1) (wNil))) (wNil)))) (wNil))))) (wNext)) (wRet (wN gTupN (wCons (wC (.str (Str.ofString "put"))) (wCons (wN gDraw (wCons (wName 0) (wCons (wN lenD (wCons (wName 1) (wNil))) (wNil)))) (wCons (wName 2) (wNil)))))))))))
def w_afterE : DS := wSeq (wSet 2 (wOp ixD (wName 1) (wC (.int 1)))) (wSeq (wIf (wCmpT eqD (wOp ixD (wName 1) (wC (.int 0))) (wC (.str (Str.ofString "put")))) (wRet (wOp addD (wOp addD (wSl (wName 0) (wNoPart) (wPart (wName 2))) (wN gTupN (wCons (wOp ixD (wName 1) (wC (.int 2))) (wNil)))) (wSl (wName 0) (wPart (wOp addD (wName 2) (wC (.int 1)))) (wNoPart)))) (wNext)) (wSeq (wIf (wCmpT eqD (wOp ixD (wName 1) (wC (.int 0))) (wC (.str (Str.ofString "insert")))) (wRet (wOp addD (wOp addD (wSl (wName 0) (wNoPart) (wPart (wName 2))) (wN gTupN (wCons (wOp ixD (wName 1) (wC (.int 2))) (wNil)))) (wSl (wName 0) (wPart (wName 2)) (wNoPart)))) (wNext)) (wRet (wOp addD (wSl (wName 0) (wNoPart) (wPart (wName 2))) (wSl (wName 0) (wPart (wOp addD (wName 2) (wC (.int 1)))) (wNoPart))))))
end RS
set_option Elab.async false
set_option linter.all false
set_option maxRecDepth 100000
namespace RS
open PySem PySem.Spec PyProof.Rows L2 RS
def limD : Option (Int × Int) → D
  | none => .non
  | some p => .tup [.int p.1, .int p.2]
def zF (L1 L2 : Addr) (lim : Option (Int × Int)) : List (Str × D) := [("states", .obj (.ref L1)), ("standing", .obj (.ref L2)), ("limits", limD lim)]
/-- a board of the class C at a, with or without limits -/
structure BoardF (C : Addr) (M : Mem) (a : Addr) (F : List Addr) (rings : List (List Int)) (edits : List D) (lim : Option (Int × Int)) : Prop where
  ex : ∃ dx L1 L2, F = [a, L1, L2] ∧ M a = some (.ins C dx (zF L1 L2 lim)) ∧ M L1 = some (.dl (rings.map ringD)) ∧ M L2 = some (.dl edits) ∧ L1 ≠ L2
  len : rings.length = edits.length + 1
  few : edits.length ≤ 60
  ok : ∀ hs ∈ rings, RingOk hs
  lm : ∀ p, lim = some p → 0 ≤ p.1 ∧ p.1 ≤ 1000000000 ∧ 0 ≤ p.2 ∧ p.2 ≤ 24
/-- a place, by any value -/
def isPlZ (v : D) (n : Int) : Bool := match v with
  | .int i => decide (0 ≤ i ∧ i < n)
  | _ => false
def isTolZ (v : D) : Bool := match v with
  | .int i => decide (0 ≤ i ∧ i ≤ 1000000000)
  | _ => false
def natZ : D → Nat
  | .int i => i.toNat
  | _ => 0
def intZ : D → Int
  | .int i => i
  | _ => 0
/-- the ring of a version, by any value -/
def verR (rings : List (List Int)) (v : D) : Option (List Int) := match v with
  | .non => rings.getLast?
  | .int i => if 0 ≤ i then rings[i.toNat]? else none
  | _ => none
abbrev Rs := Except (Str × List (Str × D)) (List Int)
/-- what calm limits refuse -/
def calmR (lim : Option (Int × Int)) (hs : List Int) : Rs := match lim with
  | none => .ok hs
  | some p => if p.2 < leastTurns hs p.1 then .error (Str.ofString "Restless", [(Str.ofString "number", .int (leastTurns hs p.1))]) else .ok hs
def putR (lim : Option (Int × Int)) (n : Nat) (hs : List Int) (p h : D) : Rs :=
  if 60 ≤ n then .error (Str.ofString "TooManyEdits", []) else if isPlZ p hs.length = false then .error (Str.ofString "NoPlace", [(Str.ofString "value", p)]) else if isHt h = false then .error (Str.ofString "BadHeight", [(Str.ofString "value", h)])
  else calmR lim (putL hs (natZ p) (intZ h))
def insR (lim : Option (Int × Int)) (n : Nat) (hs : List Int) (p h : D) : Rs :=
  if 60 ≤ n then .error (Str.ofString "TooManyEdits", []) else if isPlZ p (hs.length + 1) = false then .error (Str.ofString "NoPlace", [(Str.ofString "value", p)]) else if isHt h = false then .error (Str.ofString "BadHeight", [(Str.ofString "value", h)])
  else if 24 ≤ hs.length then .error (Str.ofString "TooLong", [(Str.ofString "bound", .int 24)]) else calmR lim (insL hs (natZ p) (intZ h))
def remR (lim : Option (Int × Int)) (n : Nat) (hs : List Int) (p : D) : Rs :=
  if 60 ≤ n then .error (Str.ofString "TooManyEdits", []) else if isPlZ p hs.length = false then .error (Str.ofString "NoPlace", [(Str.ofString "value", p)])
  else if hs.length = 1 then .error (Str.ofString "LastPlace", []) else calmR lim (delL hs (natZ p))
/-- how an edit ends -/
def endR (C : Addr) (M : Mem) (a : Addr) (F : List Addr) (rings : List (List Int)) (edits : List D) (lim : Option (Int × Int)) (e : D) (P : DK) (PX : DXK) : Rs → Prop
  | .error x => PX x.1 x.2 M
  | .ok hs => ∀ M', BoardF C M' a F (rings ++ [hs]) (edits ++ [e]) lim → UpdF F M M' → P (.int ((edits.length + 1 : Nat) : Int)) M'
def gKeepZ (C : Addr) (lim : Option (Int × Int)) : DSpX := fun ds M P PX => ∃ (a : Addr) (F : List Addr) (rings : List (List Int)) (edits : List D) (e : D) (hs : List Int), ds = [.obj (.ref a), e, ringD hs] ∧ BoardF C M a F rings edits lim ∧ edits.length < 60 ∧ RingOk hs ∧ endR C M a F rings edits lim e P PX (calmR lim hs)
/-- the method keep of the class does what is asked -/
def KeepOk (gk : Addr → DSpX) (C : Addr) (lim : Option (Int × Int)) : Prop := ∀ ds M P PX, gKeepZ C lim ds M P PX → gk C ds M P PX
structure BoardZ (okC : Addr → Prop) (gk : Addr → DSpX) (C : Addr) (M : Mem) (a : Addr) (F : List Addr) (rings : List (List Int)) (edits : List D) (lim : Option (Int × Int)) : Prop where
  b : BoardF C M a F rings edits lim
  oc : okC C
  kp : KeepOk gk C lim
def gZ_is_tolerance : DSp := fun ds M P => ∃ v : D, ds = [v] ∧ v.known = true ∧ P (.bl (isTolZ v)) M
def gZ_check_place : DSpX := fun ds M P PX => ∃ (v : D) (n : Int), ds = [v, .int n] ∧ v.known = true ∧ if isPlZ v n = true then P .non M else PX (Str.ofString "NoPlace") [(Str.ofString "value", v)] M
def gZ_check_height : DSpX := fun ds M P PX => ∃ (v : D), ds = [v] ∧ v.known = true ∧ if isHt v = true then P .non M else PX (Str.ofString "BadHeight") [(Str.ofString "value", v)] M
def gZ_check_tolerance : DSpX := fun ds M P PX => ∃ (v : D), ds = [v] ∧ v.known = true ∧ if isTolZ v = true then P .non M else PX (Str.ofString "BadTolerance") [(Str.ofString "value", v)] M
def gZ_insert_height : DSpX := fun ds M P PX => ∃ (xs : List D) (j : Nat) (v : D), ds = [.tup xs, .int j, v] ∧ xs.length ≤ 1000 ∧ j ≤ xs.length ∧ if 24 ≤ xs.length then PX (Str.ofString "TooLong") [(Str.ofString "bound", .int 24)] M else P (.tup (insL xs j v)) M
def gZ_remove_place : DSpX := fun ds M P PX => ∃ (xs : List D) (j : Nat), ds = [.tup xs, .int j] ∧ xs.length ≤ 1000 ∧ j < xs.length ∧ if xs.length = 1 then PX (Str.ofString "LastPlace") [] M else P (.tup (delL xs j)) M
def gZ_Board___init__ (okC : Addr → Prop) : DSp := fun ds M P => ∃ (a dx C : Addr) (hs : List Int), ds = [.obj (.ref a), ringD hs] ∧ M a = some (.ins C dx []) ∧ okC C ∧ RingOk hs ∧ ∀ M' F, BoardF C M' a F [hs] [] none → UpdF [a] M M' → NewF [a] F M → P .non M'
def gZ_Board___len__ (okC : Addr → Prop) : DSp := fun ds M P => ∃ (C a : Addr) (F : List Addr) (rings : List (List Int)) (edits : List D) (lim : Option (Int × Int)), ds = [.obj (.ref a)] ∧ BoardF C M a F rings edits lim ∧ okC C ∧ P (.int (edits.length : Nat)) M
def gZ_Board_check_room (okC : Addr → Prop) : DSpX := fun ds M P PX => ∃ (C a : Addr) (F : List Addr) (rings : List (List Int)) (edits : List D) (lim : Option (Int × Int)), ds = [.obj (.ref a)] ∧ BoardF C M a F rings edits lim ∧ okC C ∧ if 60 ≤ edits.length then PX (Str.ofString "TooManyEdits") [] M else P .non M
def gZ_Board_keep (okC : Addr → Prop) : DSpX := fun ds M P PX => ∃ (C a : Addr) (F : List Addr) (rings : List (List Int)) (edits : List D) (lim : Option (Int × Int)) (e : D) (hs : List Int), ds = [.obj (.ref a), e, ringD hs] ∧ BoardF C M a F rings edits lim ∧ okC C ∧ edits.length < 60 ∧ RingOk hs ∧ endR C M a F rings edits lim e P PX (.ok hs)
def gZ_Board_ring (okC : Addr → Prop) : DSpX := fun ds M P PX => ∃ (C a : Addr) (F : List Addr) (rings : List (List Int)) (edits : List D) (lim : Option (Int × Int)) (v : D), ds = [.obj (.ref a), v] ∧ BoardF C M a F rings edits lim ∧ okC C ∧ v.known = true ∧ match verR rings v with
  | some hs => P (ringD hs) M
  | none => PX (Str.ofString "NoVersion") [(Str.ofString "value", v)] M
def gZ_Board_put (okC : Addr → Prop) (gk : Addr → DSpX) : DSpX := fun ds M P PX => ∃ (C a : Addr) (F : List Addr) (rings : List (List Int)) (edits : List D) (lim : Option (Int × Int)) (hs : List Int) (p h : D), ds = [.obj (.ref a), p, h] ∧ BoardZ okC gk C M a F rings edits lim ∧ p.known = true ∧ h.known = true ∧ rings.getLast? = some hs ∧
  endR C M a F rings edits lim (.tup [.str (Str.ofString "put"), p, h]) P PX (putR lim edits.length hs p h)
def gZ_Board_insert (okC : Addr → Prop) (gk : Addr → DSpX) : DSpX := fun ds M P PX => ∃ (C a : Addr) (F : List Addr) (rings : List (List Int)) (edits : List D) (lim : Option (Int × Int)) (hs : List Int) (p h : D), ds = [.obj (.ref a), p, h] ∧ BoardZ okC gk C M a F rings edits lim ∧ p.known = true ∧ h.known = true ∧ rings.getLast? = some hs ∧
  endR C M a F rings edits lim (.tup [.str (Str.ofString "insert"), p, h]) P PX (insR lim edits.length hs p h)
def gZ_Board_remove (okC : Addr → Prop) (gk : Addr → DSpX) : DSpX := fun ds M P PX => ∃ (C a : Addr) (F : List Addr) (rings : List (List Int)) (edits : List D) (lim : Option (Int × Int)) (hs : List Int) (p : D), ds = [.obj (.ref a), p] ∧ BoardZ okC gk C M a F rings edits lim ∧ p.known = true ∧ rings.getLast? = some hs ∧
  endR C M a F rings edits lim (.tup [.str (Str.ofString "remove"), p]) P PX (remR lim edits.length hs p)
def gZ_Board_go_back (okC : Addr → Prop) : DSp := fun ds M P => ∃ (C a : Addr) (F : List Addr) (rings : List (List Int)) (edits : List D) (lim : Option (Int × Int)) (v : Nat), ds = [.obj (.ref a), .int (v : Nat)] ∧ BoardF C M a F rings edits lim ∧ okC C ∧ v ≤ edits.length ∧
  ∀ M' F', BoardF C M' a F' (rings.take (v + 1)) (edits.take v) lim → UpdF F M M' → NewF F F' M → P (.int (v : Nat)) M'
def gZ_Board_undo (okC : Addr → Prop) : DSpX := fun ds M P PX => ∃ (C a : Addr) (F : List Addr) (rings : List (List Int)) (edits : List D) (lim : Option (Int × Int)), ds = [.obj (.ref a)] ∧ BoardF C M a F rings edits lim ∧ okC C ∧
  if edits.length = 0 then PX (Str.ofString "NothingToUndo") [] M else ∀ M' F', BoardF C M' a F' (rings.take edits.length) (edits.take (edits.length - 1)) lim → UpdF F M M' → NewF F F' M → P (.int ((edits.length - 1 : Nat) : Int)) M'
def wZ_is_tolerance : DS := wRet (wAndV (wN g_is_number (wCons (wName 0) (wNil))) (wChainE leD leD (wC (.int 0)) (wName 0) (wC (.int 1000000000))))
def wZ_check_place : DS := wIf (wOrT (wNotT (wTru (wN g_is_number (wCons (wName 0) (wNil))))) (wNotT (wChain leD ltD (wC (.int 0)) (wName 0) (wName 1)))) (wRaise1 "NoPlace" "value" (wName 0)) (wNext)
def wZ_check_height : DS := wIf (wNotT (wTru (wN g_is_height (wCons (wName 0) (wNil))))) (wRaise1 "BadHeight" "value" (wName 0)) (wNext)
def wZ_check_tolerance : DS := wIf (wNotT (wTru (wN gZ_is_tolerance (wCons (wName 0) (wNil))))) (wRaise1 "BadTolerance" "value" (wName 0)) (wNext)
def wZ_insert_height : DS := wSeq (wIf (wCmpT geD (wN lenD (wCons (wName 0) (wNil))) (wC (.int 24))) (wRaise1 "TooLong" "bound" (wC (.int 24))) (wNext)) (wRet (wOp addD (wOp addD (wSl (wName 0) (wNoPart) (wPart (wName 1))) (wN gTupN (wCons (wName 2) (wNil)))) (wSl (wName 0) (wPart (wName 1)) (wNoPart))))
def wZ_remove_place : DS := wSeq (wIf (wCmpT eqD (wN lenD (wCons (wName 0) (wNil))) (wC (.int 1))) (wRaise0 "LastPlace") (wNext)) (wRet (wOp addD (wSl (wName 0) (wNoPart) (wPart (wName 1))) (wSl (wName 0) (wPart (wOp addD (wName 1) (wC (.int 1)))) (wNoPart))))
def wZ_Board___init__ (okC : Addr → Prop) : DS := wSeq (wSet 2 (wN g_ring_error (wCons (wName 1) (wNil)))) (wSeq (wIf (wCmpT isNotND (wName 2) (wC .non)) (wNever) (wNext)) (wSeq (wSetFld okC (wObj (wLstO (wCons (wName 1) (wNil)))) (wName 0) "states") (wSeq (wSetFld okC (wObj (wLstO (wNil))) (wName 0) "standing") (wSetFld okC (wC .non) (wName 0) "limits"))))
def wZ_Board___len__ (okC : Addr → Prop) : DS := wRet (wN lenD (wCons (wFld okC (wName 0) "standing") (wNil)))
def wZ_Board_put (okC : Addr → Prop) (gk : Addr → DSpX) : DS := wSeq (wDropX (wMetX okC "check_room" (fun ds _ => ds) (fun _ => (gZ_Board_check_room okC)) (wName 0) (wNil) (wNil))) (wSeq (wSetX 3 (wMetX okC "ring" (fun ds es => ds ++ es ++ [.non]) (fun _ => (gZ_Board_ring okC)) (wName 0) (wNil) (wNil))) (wSeq (wDropX (wNX gZ_check_place (wCons (wName 1) (wCons (wN lenD (wCons (wName 3) (wNil))) (wNil))))) (wSeq (wDropX (wNX gZ_check_height (wCons (wName 2) (wNil)))) (wRetX (wMetX okC "keep" (fun ds _ => ds) gk (wName 0) (wCons (wN gTupN (wCons (wC (.str (Str.ofString "put"))) (wCons (wName 1) (wCons (wName 2) (wNil))))) (wCons (wN g_set_height (wCons (wName 3) (wCons (wName 1) (wCons (wName 2) (wNil))))) (wNil))) (wNil))))))
def wZ_Board_insert (okC : Addr → Prop) (gk : Addr → DSpX) : DS := wSeq (wDropX (wMetX okC "check_room" (fun ds _ => ds) (fun _ => (gZ_Board_check_room okC)) (wName 0) (wNil) (wNil))) (wSeq (wSetX 3 (wMetX okC "ring" (fun ds es => ds ++ es ++ [.non]) (fun _ => (gZ_Board_ring okC)) (wName 0) (wNil) (wNil))) (wSeq (wDropX (wNX gZ_check_place (wCons (wName 1) (wCons (wOp addD (wN lenD (wCons (wName 3) (wNil))) (wC (.int 1))) (wNil))))) (wSeq (wDropX (wNX gZ_check_height (wCons (wName 2) (wNil)))) (wRetX (wMetXX okC "keep" (fun ds _ => ds) gk (wName 0) (wConsX (wPure (wN gTupN (wCons (wC (.str (Str.ofString "insert"))) (wCons (wName 1) (wCons (wName 2) (wNil)))))) (wConsX (wNX gZ_insert_height (wCons (wName 3) (wCons (wName 1) (wCons (wName 2) (wNil))))) (wPureA wNil))))))))
def wZ_Board_remove (okC : Addr → Prop) (gk : Addr → DSpX) : DS := wSeq (wDropX (wMetX okC "check_room" (fun ds _ => ds) (fun _ => (gZ_Board_check_room okC)) (wName 0) (wNil) (wNil))) (wSeq (wSetX 2 (wMetX okC "ring" (fun ds es => ds ++ es ++ [.non]) (fun _ => (gZ_Board_ring okC)) (wName 0) (wNil) (wNil))) (wSeq (wDropX (wNX gZ_check_place (wCons (wName 1) (wCons (wN lenD (wCons (wName 2) (wNil))) (wNil))))) (wRetX (wMetXX okC "keep" (fun ds _ => ds) gk (wName 0) (wConsX (wPure (wN gTupN (wCons (wC (.str (Str.ofString "remove"))) (wCons (wName 1) (wNil))))) (wConsX (wNX gZ_remove_place (wCons (wName 2) (wCons (wName 1) (wNil)))) (wPureA wNil)))))))
def wZ_Board_check_room (okC : Addr → Prop) : DS := wIf (wCmpT geD (wN lenD (wCons (wFld okC (wName 0) "standing") (wNil))) (wC (.int 60))) (wRaise0 "TooManyEdits") (wNext)
def wZ_Board_keep (okC : Addr → Prop) : DS := wSeq (wDrop (wApp (wFld okC (wName 0) "standing") (wName 1))) (wSeq (wDrop (wApp (wFld okC (wName 0) "states") (wName 2))) (wRet (wN lenD (wCons (wFld okC (wName 0) "standing") (wNil)))))
def wZ_Board_undo (okC : Addr → Prop) : DS := wSeq (wIf (wNotT (wTruO (wFld okC (wName 0) "standing"))) (wRaise0 "NothingToUndo") (wNext)) (wRet (wMet okC "go_back" (fun ds _ => ds) (fun _ => (gZ_Board_go_back okC)) (wName 0) (wCons (wOp subD (wN lenD (wCons (wFld okC (wName 0) "standing") (wNil))) (wC (.int 1))) (wNil)) (wNil)))
def wZ_Board_go_back (okC : Addr → Prop) : DS := wSeq (wSetFld okC (wObj (wSlOO (wFld okC (wName 0) "standing") (wNoPart) (wPart (wName 1)))) (wName 0) "standing") (wSeq (wSetFld okC (wObj (wSlOO (wFld okC (wName 0) "states") (wNoPart) (wPart (wOp addD (wName 1) (wC (.int 1)))))) (wName 0) "states") (wRet (wName 1)))
def wZ_Board_ring (okC : Addr → Prop) : DS := wSeq (wIf (wCmpT isND (wName 1) (wC .non)) (wRet (wOp ixD (wFld okC (wName 0) "states") (wUn negD (wC (.int 1))))) (wNext)) (wSeq (wIf (wOrT (wNotT (wTru (wN g_is_number (wCons (wName 1) (wNil))))) (wNotT (wChain leD leD (wC (.int 0)) (wName 1) (wN lenD (wCons (wFld okC (wName 0) "standing") (wNil)))))) (wRaise1 "NoVersion" "value" (wName 1)) (wNext)) (wRet (wOp ixD (wFld okC (wName 0) "states") (wName 1))))
end RS
set_option Elab.async false
set_option linter.all false
set_option maxRecDepth 100000
/-! Helpers of the laws about boards. -/
namespace RS
open PySem PySem.Spec PyProof.Rows L2
theorem sne1 : ¬ ((Str.ofString "insert") = (Str.ofString "put")) := by decide +kernel
theorem sne2 : ¬ ((Str.ofString "remove") = (Str.ofString "put")) := by decide +kernel
theorem sne3 : ¬ ((Str.ofString "remove") = (Str.ofString "insert")) := by decide +kernel
set_option maxHeartbeats 0 in
theorem sem_afterE {ds : List D} {M : Mem} {P : DK} (h : gAfterE ds M P) : ds.length = 2 ∧ w_afterE (ends P) (ds.map some ++ List.replicate (3 - ds.length) none) M := by
  obtain ⟨hs, e, rfl, ok, he, q⟩ := h
  have hlm : (hs.map D.int).length = hs.length := List.length_map ..
  have o2 := ok.2.1
  cases e with
  | put j x =>
    obtain ⟨hj, hx⟩ := he
    refine ⟨rfl, _, rfl, _, rfl, _, rfl, ?_⟩
    rw [decide_eq_true rfl]
    have c1 : cutD (hs.map D.int) none (some (j : Int)) = (hs.map D.int).take j := cutD_to _ j
    have c2 : cutD (hs.map D.int) (some ((j : Int) + 1)) none = (hs.map D.int).drop (j + 1) := cutD_from _ (j + 1)
    refine ⟨_, rfl, small_line (by show 1 ≤ 1000000; decide), small_line (by rw [c1, List.length_take]; show _ + 1 ≤ _; omega), small_line (by rw [c1, c2, List.length_append, List.length_take, List.length_drop]; show _ + 1 + _ ≤ _; omega), ?_⟩
    rw [c1, c2]
    have e : (hs.map D.int).take j ++ [D.int x] ++ (hs.map D.int).drop (j + 1) = (putL hs j x).map D.int := put_map hs j x
    rw [e]
    exact q
  | ins j x =>
    obtain ⟨hj, h24, hx⟩ := he
    refine ⟨rfl, _, rfl, _, rfl, _, rfl, ?_⟩
    rw [decide_eq_false sne1]
    refine ⟨_, rfl, _, rfl, ?_⟩
    rw [decide_eq_true rfl]
    have c1 : cutD (hs.map D.int) none (some (j : Int)) = (hs.map D.int).take j := cutD_to _ j
    have c2 : cutD (hs.map D.int) (some (j : Int)) none = (hs.map D.int).drop j := cutD_from _ j
    refine ⟨_, rfl, small_line (by show 1 ≤ 1000000; decide), small_line (by rw [c1, List.length_take]; show _ + 1 ≤ _; omega), small_line (by rw [c1, c2, List.length_append, List.length_take, List.length_drop]; show _ + 1 + _ ≤ _; omega), ?_⟩
    rw [c1, c2]
    have e : (hs.map D.int).take j ++ [D.int x] ++ (hs.map D.int).drop j = (insL hs j x).map D.int := ins_map hs j x
    rw [e]
    exact q
  | rem j =>
    obtain ⟨hj, h1⟩ := he
    refine ⟨rfl, _, rfl, _, rfl, _, rfl, ?_⟩
    rw [decide_eq_false sne2]
    refine ⟨_, rfl, _, rfl, ?_⟩
    rw [decide_eq_false sne3]
    have c1 : cutD (hs.map D.int) none (some (j : Int)) = (hs.map D.int).take j := cutD_to _ j
    have c2 : cutD (hs.map D.int) (some ((j : Int) + 1)) none = (hs.map D.int).drop (j + 1) := cutD_from _ (j + 1)
    refine ⟨small_line (by rw [c1, c2, List.length_take, List.length_drop]; omega), ?_⟩
    rw [c1, c2]
    have e : (hs.map D.int).take j ++ (hs.map D.int).drop (j + 1) = (delL hs j).map D.int := del_map hs j
    rw [e]
    exact q
end RS
set_option Elab.async false
set_option linter.all false
set_option maxRecDepth 100000
/-! The places at which the height changes, and the turns among them. -/
namespace RS
open PySem PySem.Spec PyProof.Rows L2
end RS
set_option Elab.async false
set_option linter.all false
set_option maxRecDepth 100000
namespace RS
open PySem PySem.Spec PyProof.Rows L2
end RS
set_option Elab.async false
set_option linter.all false
set_option maxRecDepth 100000
namespace RS
open PySem PySem.Spec PyProof.Rows L2
end RS
set_option Elab.async false
set_option linter.all false
set_option maxRecDepth 100000
namespace RS
open PySem PySem.Spec PyProof.Rows L2
theorem menuE3 {r : Int} (h0 : 0 ≤ r) (h1 : r < 4) : ∃ sp : Int, atI [D.int 2, .int 4, .int 9, .int 30] r = some (.int sp) ∧ 2 ≤ sp ∧ sp ≤ 30 := by
  have : r = 0 ∨ r = 1 ∨ r = 2 ∨ r = 3 := by omega
  rcases this with rfl | rfl | rfl | rfl
  · exact ⟨_, rfl, by decide, by decide⟩
  · exact ⟨_, rfl, by decide, by decide⟩
  · exact ⟨_, rfl, by decide, by decide⟩
  · exact ⟨_, rfl, by decide, by decide⟩
theorem menuE4 {r sp : Int} (h0 : 0 ≤ r) (h1 : r < 4) (h2 : 2 ≤ sp) (h3 : sp ≤ 30) : ∃ b : Int, atI [D.int 0, .int (-5), .int (10 ^ (9 : Int).toNat - sp), .int (-(10 ^ (9 : Int).toNat))] r = some (.int b) ∧ -1000000000 ≤ b ∧ b + sp ≤ 1000000000 := by
  have : r = 0 ∨ r = 1 ∨ r = 2 ∨ r = 3 := by omega
  have e : (10 : Int) ^ (9 : Int).toNat = 1000000000 := by decide
  rcases this with rfl | rfl | rfl | rfl
  · exact ⟨_, rfl, by decide, by omega⟩
  · exact ⟨_, rfl, by decide, by omega⟩
  · exact ⟨_, rfl, by omega, by omega⟩
  · exact ⟨_, rfl, by omega, by omega⟩
set_option maxHeartbeats 0 in
theorem sem_ringE {ds : List D} {M : Mem} {P : DK} (h : gRingE ds M P) : ds.length = 2 ∧ w_ringE (endsS P) (ds.map some ++ List.replicate (7 - ds.length) none) M := by
  obtain ⟨d, l, n, most, rfl, DK, hn, m1, m2, q⟩ := h
  refine ⟨rfl, d, l, n, most, rfl, DK, by omega, by omega, by omega, fun c M1 c0 c1 DK1 k1 => ?_⟩
  refine ⟨small_line (by show 4 ≤ 1000000; decide), d, l, _, 4, rfl, DK1, by omega, by decide, by decide, fun r M2 r0 r1 DK2 k2 => ?_⟩
  obtain ⟨sp, e1, s1, s2⟩ := menuE3 r0 r1
  refine ⟨_, e1, cpow9, cpow9, small_line (by show 4 ≤ 1000000; decide), d, l, _, 4, rfl, DK2, by omega, by decide, by decide, fun r' M3 r0' r1' DK3 k3 => ?_⟩
  obtain ⟨b, e2, b1, b2⟩ := menuE4 r0' r1' s1 s2
  refine ⟨_, e2, small_line (by show 0 ≤ 1000000; decide), fun L nL => ?_⟩
  obtain ⟨L1, L2⟩ := DK3.free nL
  have kk : KeepM d l M M3 := (k1.trans k2).trans k3
  obtain ⟨m, hm⟩ : ∃ m : Nat, (1 + c : Int) = (m : Int) := ⟨(1 + c).toNat, by omega⟩
  refine ⟨by omega, by omega, ?_⟩
  show forD _ _ _ (rngD 0 (1 + c).toNat) _ _
  rw [hm, Int.toNat_natCast]
  have ML : M L = none ∨ L = d ∨ L = l := by
    cases z : M L with
    | none => exact .inl rfl
    | some o =>
      have := kk L o L1 L2 z
      rw [nL] at this
      cases this
  refine forD_ind (fun i Γ M' => ∃ (y6 : Option D) (hs : List Int) (n' : Int), Γ = [some (.obj (.ref d)), some (.int most), some (.int (m : Int)), some (.int sp), some (.int b), some (.obj (.ref L)), y6] ∧ M' L = some (.dl (hs.map .int)) ∧ hs.length = i ∧ (∀ s ∈ hs, Ht s) ∧ DeckM M' d l n' ∧ n + 3 ≤ n' ∧ n' ≤ n + 3 + 2 * i ∧ KeepM d l M M') ?_ ?_
    ⟨none, [], n + 1 + 1 + 1, rfl, updM_same, rfl, (fun s h => nomatch h), DK3.upd L1 L2, by omega, by omega, fun a o z1 z2 z3 => by
      have := kk a o z1 z2 z3
      rw [updM_ne (fun z => by rw [z, nL] at this; cases this)]
      exact this⟩
  · rintro i x Γ M' hx ⟨y6, hs, n', rfl, eL, pl, hh, DK', n1, n2, kp⟩ nx hnx
    obtain ⟨hi, rfl⟩ := rngD_at hx
    have put : ∀ (y : Int) (M4 : Mem) (n4 : Int), Ht y → M4 L = some (.dl (hs.map .int)) → DeckM M4 d l n4 → n + 3 ≤ n4 → n4 ≤ n + 3 + 2 * (i + 1 : Nat) → KeepM d l M M4 → ∀ w6, nx [some (.obj (.ref d)), some (.int most), some (.int (m : Int)), some (.int sp), some (.int b), some (.obj (.ref L)), w6] (updM M4 L (.dl (hs.map D.int ++ [.int y]))) := fun y M4 n4 hy e4 D4 a1 a2 k4 w6 =>
      hnx _ _ ⟨_, hs ++ [y], n4, rfl, by rw [updM_same, List.map_append]; rfl, by rw [List.length_append, pl]; rfl, fun s hs' => by
        rcases List.mem_append.mp hs' with h | h
        · exact hh s h
        · rw [List.mem_singleton.mp h]; exact hy, D4.upd L1 L2, a1, a2, fun a o z1 z2 z3 => by
          have hb : a ≠ L := fun z => by
            have := kk a o z1 z2 z3
            rw [z, nL] at this
            cases this
          rw [updM_ne hb]
          exact k4 a o z1 z2 z3⟩
    have fresh : ∀ (M4 : Mem) (n4 : Int), M4 L = some (.dl (hs.map .int)) → DeckM M4 d l n4 → n + 3 ≤ n4 → n4 ≤ n + 3 + 2 * (i : Nat) + 1 → KeepM d l M M4 → wDrop (wApp (wName 5) (wOp addD (wName 4) (wN gDraw (wCons (wName 0) (wCons (wOp addD (wName 3) (wC (.int 1))) (wNil)))))) { endsS P with nx := nx, ct := nx, bk := fun Γ' M' => ∃ L ds, Γ'[5]? = some (some (.obj (.ref L))) ∧ M' L = some (.dl ds) ∧ wRet (wN tupleD (wCons (wName 5) (wNil))) (endsS P) (Γ'.set 5 (some (.lst ds))) (delM M' L) } [some (.obj (.ref d)), some (.int most), some (.int (m : Int)), some (.int sp), some (.int b), some (.obj (.ref L)), some (.int (i : Nat))] M4 := fun M4 n4 e4 D4 a1 a2 k4 => by
      refine ⟨⟨_, _, rfl, e4⟩, d, l, n4, sp + 1, rfl, D4, by omega, by omega, by omega, fun z M5 z0 z1 D5 k5 => ?_⟩
      have e5 := k5 L _ L1 L2 e4
      exact ⟨_, e5, by rw [List.length_map]; omega, put (b + z) M5 (n4 + 1) (by unfold Ht; omega) e5 D5 (by omega) (by omega) (k4.trans k5) _⟩
    refine ⟨_, rfl, small_line (by show 0 ≤ 1000000; decide), _, eL, _, rfl, ite2 (fun c1 => ?_) (fun c1 => ?_)⟩
    · refine ⟨d, l, n', 5, rfl, DK', by omega, by decide, by decide, fun z M4 z0 z1 D4 k4 => ⟨_, rfl, ite2 (fun c2 => ?_) (fun c2 => ?_)⟩⟩
      · have e4 := k4 L _ L1 L2 eL
        have hne : hs ≠ [] := fun z => by
          rw [z] at c1
          cases c1
        obtain ⟨x, hx⟩ : ∃ x, hs.getLast? = some x := ⟨hs.getLast hne, List.getLast?_eq_getLast hne⟩
        have hl : atI (hs.map D.int) (-1) = some (.int x) := atI_lastD (by rw [List.getLast?_map, hx]; rfl)
        exact ⟨⟨_, _, rfl, e4⟩, _, _, e4, hl, _, e4, by rw [List.length_map]; omega, put x M4 (n' + 1) (hh x (List.mem_of_getLast? hx)) e4 D4 (by omega) (by omega) (kp.trans k4) _⟩
      · exact fresh M4 (n' + 1) (k4 L _ L1 L2 eL) D4 (by omega) (by omega) (kp.trans k4)
    · exact fresh M' n' eL DK' n1 (by omega) kp
  · rintro Γ M' ⟨y6, hs, n', rfl, eL, pl, hh, DK', n1, n2, kp⟩
    rw [rngD_len] at pl n2
    refine ⟨L, _, rfl, eL, delM M' L, Sub.rfl', ?_⟩
    refine q _ n' hs ?_ (by omega) (by omega) (fun a o z1 z2 z3 => ?_) ⟨by omega, by omega, hh⟩ (by omega)
    · obtain ⟨cs, h1, h2, h3⟩ := DK'.cards
      exact ⟨by rw [delM_ne L1.symm]; exact DK'.top, ⟨cs, by rw [delM_ne L2.symm]; exact h1, h2, h3⟩, DK'.ne, DK'.n0⟩
    · have hb : a ≠ L := fun z => by
        have := kk a o z1 z2 z3
        rw [z, nL] at this
        cases this
      rw [delM_ne hb]
      exact kp a o z1 z2 z3
end RS
set_option Elab.async false
set_option linter.all false
set_option maxRecDepth 100000
namespace RS
open PySem PySem.Spec PyProof.Rows L2
theorem menuE5 {r : Int} (h0 : 0 ≤ r) (h1 : r < 5) : ∃ b : Int, atI [D.int 0, .int 1, .int (-1), .int 3, .int (-7)] r = some (.int b) := by
  have : r = 0 ∨ r = 1 ∨ r = 2 ∨ r = 3 ∨ r = 4 := by omega
  rcases this with rfl | rfl | rfl | rfl | rfl <;> exact ⟨_, rfl⟩
theorem menuE6 {r a c e f : Int} (h0 : 0 ≤ r) (h1 : r < 5) : ∃ b : Int, atI [D.int a, .int a, .int c, .int e, .int f] r = some (.int b) := by
  have : r = 0 ∨ r = 1 ∨ r = 2 ∨ r = 3 ∨ r = 4 := by omega
  rcases this with rfl | rfl | rfl | rfl | rfl <;> exact ⟨_, rfl⟩
set_option maxHeartbeats 0 in
theorem sem_editE {ds : List D} {M : Mem} {P : DK} (h : gEditE ds M P) : ds.length = 2 ∧ w_editE (ends P) (ds.map some ++ List.replicate (4 - ds.length) none) M := by
  obtain ⟨d, l, n, hs, rfl, DK, hn, ok, q⟩ := h
  have hlm : (hs.map D.int).length = hs.length := List.length_map ..
  have o1 := ok.1
  have o2 := ok.2.1
  refine ⟨rfl, d, l, n, _, rfl, DK, by omega, by show (0 : Int) < (((hs.map D.int).length : Nat) : Int); omega, by show (((hs.map D.int).length : Nat) : Int) < 2 ^ 64; omega, fun r M1 r0 r1 DK1 k1 => ?_⟩
  have r1' : r < (((hs.map D.int).length : Nat) : Int) := r1
  obtain ⟨j, rfl⟩ : ∃ j : Nat, r = (j : Int) := ⟨r.toNat, by omega⟩
  refine ⟨_, atI_getD (by omega), small_line (by show 5 ≤ 1000000; decide), d, l, _, 5, rfl, DK1, by omega, by decide, by decide, fun r2 M2 p0 p1 DK2 k2 => ?_⟩
  obtain ⟨b, e1⟩ := menuE5 p0 p1
  refine ⟨_, e1, d, l, _, 40, rfl, DK2, by omega, by decide, by decide, fun r3 M3 s0 s1 DK3 k3 => ?_⟩
  refine ⟨cpow9, cpow9, small_line (by show 5 ≤ 1000000; decide), d, l, _, 5, rfl, DK3, by omega, by decide, by decide, fun r4 M4 t0 t1 DK4 k4 => ?_⟩
  obtain ⟨h, e2⟩ := menuE6 (a := hs.getD j 0 + b) (c := r3 - 20) (e := 10 ^ (9 : Int).toNat) (f := -(10 ^ (9 : Int).toNat)) t0 t1
  refine ⟨_, e2, cpow9, cpow9, ?_⟩
  have hH : ∀ x : Int, Ht (if (if x < 10 ^ (9 : Int).toNat then x else 10 ^ (9 : Int).toNat) > -(10 ^ (9 : Int).toNat) then (if x < 10 ^ (9 : Int).toNat then x else 10 ^ (9 : Int).toNat) else -(10 ^ (9 : Int).toNat)) := fun x => by
    have e : (10 : Int) ^ (9 : Int).toNat = 1000000000 := by decide
    rw [e]
    unfold Ht
    split <;> split <;> omega
  have hH' := hH h
  generalize hg : (if (if h < 10 ^ (9 : Int).toNat then h else 10 ^ (9 : Int).toNat) > -(10 ^ (9 : Int).toNat) then (if h < 10 ^ (9 : Int).toNat then h else 10 ^ (9 : Int).toNat) else -(10 ^ (9 : Int).toNat)) = g at hH'
  have kk : KeepM d l M M4 := ((k1.trans k2).trans k3).trans k4
  refine ⟨d, l, _, 4, rfl, DK4, by omega, by decide, by decide, fun w M5 w0 w1 DK5 k5 => ?_⟩
  have last : ∀ w6, wRet (wN gTupN (wCons (wC (.str (Str.ofString "put"))) (wCons (wN gDraw (wCons (wName 0) (wCons (wN lenD (wCons (wName 1) (wNil))) (wNil)))) (wCons (wName 2) (wNil))))) (ends P) [some (.obj (.ref d)), some (ringD hs), some (.int g), w6] M5 := fun w6 => by
    refine ⟨d, l, _, _, rfl, DK5, by omega, by show (0 : Int) < (((hs.map D.int).length : Nat) : Int); omega, by show (((hs.map D.int).length : Nat) : Int) < 2 ^ 64; omega, fun z M6 z0 z1 DK6 k6 => ?_⟩
    have z1' : z < (((hs.map D.int).length : Nat) : Int) := z1
    obtain ⟨i, rfl⟩ : ∃ i : Nat, z = (i : Int) := ⟨z.toNat, by omega⟩
    exact ⟨small_line (by show 3 ≤ 1000000; decide), q _ _ (.put i g) DK6 (by omega) (by omega) ((kk.trans k5).trans k6) ⟨by omega, hH'⟩⟩
  have second : ∀ w6, wSeq (wIf (wAndT (wCmpT eqD (wName 3) (wC (.int 1))) (wCmpT gtD (wN lenD (wCons (wName 1) (wNil))) (wC (.int 1)))) (wRet (wN gTupN (wCons (wC (.str (Str.ofString "remove"))) (wCons (wN gDraw (wCons (wName 0) (wCons (wN lenD (wCons (wName 1) (wNil))) (wNil)))) (wNil))))) (wNext)) (wRet (wN gTupN (wCons (wC (.str (Str.ofString "put"))) (wCons (wN gDraw (wCons (wName 0) (wCons (wN lenD (wCons (wName 1) (wNil))) (wNil)))) (wCons (wName 2) (wNil)))))) (ends P) [some (.obj (.ref d)), some (ringD hs), some (.int g), some (.int w6)] M5 := fun w6 => by
    refine ⟨_, rfl, ite2 (fun c1 => ?_) (fun c1 => last _)⟩
    refine ⟨_, rfl, ite2 (fun c2 => ?_) (fun c2 => last _)⟩
    have hl1 : 1 < hs.length := by
      have := of_decide_eq_true c2
      have : (((hs.map D.int).length : Nat) : Int) > 1 := this
      omega
    refine ⟨d, l, _, _, rfl, DK5, by omega, by show (0 : Int) < (((hs.map D.int).length : Nat) : Int); omega, by show (((hs.map D.int).length : Nat) : Int) < 2 ^ 64; omega, fun z M6 z0 z1 DK6 k6 => ?_⟩
    have z1' : z < (((hs.map D.int).length : Nat) : Int) := z1
    obtain ⟨i, rfl⟩ : ∃ i : Nat, z = (i : Int) := ⟨z.toNat, by omega⟩
    exact ⟨small_line (by show 2 ≤ 1000000; decide), q _ _ (.rem i) DK6 (by omega) (by omega) ((kk.trans k5).trans k6) ⟨by omega, hl1⟩⟩
  subst hg
  refine ⟨_, rfl, ite2 (fun c1 => ?_) (fun c1 => second _)⟩
  refine ⟨_, rfl, ite2 (fun c2 => ?_) (fun c2 => second _)⟩
  have h24 : hs.length < 24 := by
    have := of_decide_eq_true c2
    have : (((hs.map D.int).length : Nat) : Int) < 24 := this
    omega
  refine ⟨d, l, _, _, rfl, DK5, by omega, by show (0 : Int) < (((hs.map D.int).length : Nat) : Int) + 1; omega, by show (((hs.map D.int).length : Nat) : Int) + 1 < 2 ^ 64; omega, fun z M6 z0 z1 DK6 k6 => ?_⟩
  have z1' : z < (((hs.map D.int).length : Nat) : Int) + 1 := z1
  obtain ⟨i, rfl⟩ : ∃ i : Nat, z = (i : Int) := ⟨z.toNat, by omega⟩
  exact ⟨small_line (by show 3 ≤ 1000000; decide), q _ _ (.ins i _) DK6 (by omega) (by omega) ((kk.trans k5).trans k6) ⟨by omega, h24, hH'⟩⟩
end RS
set_option Elab.async false
set_option linter.all false
set_option maxRecDepth 100000
/-! The methods of a board, with what they raise. -/
namespace RS
open PySem PySem.Spec PyProof.Rows L2
theorem zF_states (L1 L2 : Addr) (lim : Option (Int × Int)) : (zF L1 L2 lim).lookup (Str.ofString "states") = some (.obj (.ref L1)) := rfl
theorem zF_standing (L1 L2 : Addr) (lim : Option (Int × Int)) : (zF L1 L2 lim).lookup (Str.ofString "standing") = some (.obj (.ref L2)) := rfl
theorem zF_limits (L1 L2 : Addr) (lim : Option (Int × Int)) : (zF L1 L2 lim).lookup (Str.ofString "limits") = some (limD lim) := rfl
theorem zF_no {m : Str} (h : (["states", "standing", "limits"] : List Str).contains m = false) (L1 L2 : Addr) (lim : Option (Int × Int)) : (zF L1 L2 lim).lookup m = none := by
  have h' : (m == "states") = false ∧ (m == "standing") = false ∧ (m == "limits") = false := by
    simp only [List.contains_cons, List.contains_nil, Bool.or_false, Bool.or_eq_false_iff] at h
    exact h
  unfold zF
  rw [List.lookup_cons, h'.1]
  dsimp only
  rw [List.lookup_cons, h'.2.1]
  dsimp only
  rw [List.lookup_cons, h'.2.2]
  rfl
section
variable {okC : Addr → Prop} {gk : Addr → DSpX} {C a : Addr} {M M' : Mem} {F F' : List Addr} {rings : List (List Int)} {edits : List D} {lim : Option (Int × Int)}
theorem BoardF.ins (b : BoardF C M a F rings edits lim) (oc : okC C) {m : Str} (h : (["states", "standing", "limits"] : List Str).contains m = false) : ∃ fs, InsM okC M (.obj (.ref a)) C fs ∧ fs.lookup m = none := by
  obtain ⟨dx, L1, L2, rfl, m1, _⟩ := b.ex
  exact ⟨zF L1 L2 lim, ⟨a, dx, rfl, m1, oc⟩, zF_no h L1 L2 lim⟩
theorem BoardF.upd (b : BoardF C M a F rings edits lim) (k : ∀ x ∈ F, ∀ o, M x = some o → M' x = some o) : BoardF C M' a F rings edits lim := by
  obtain ⟨dx, L1, L2, rfl, m1, m2, m3, ne⟩ := b.ex
  exact ⟨⟨dx, L1, L2, rfl, k _ (by simp) _ m1, k _ (by simp) _ m2, k _ (by simp) _ m3, ne⟩, b.len, b.few, b.ok, b.lm⟩
theorem BoardF.there (b : BoardF C M a F rings edits lim) {x : Addr} (h : x ∈ F) : ∃ o, M x = some o := by
  obtain ⟨dx, L1, L2, rfl, m1, m2, m3, ne⟩ := b.ex
  simp only [List.mem_cons, List.not_mem_nil, or_false] at h
  rcases h with rfl | rfl | rfl
  · exact ⟨_, m1⟩
  · exact ⟨_, m2⟩
  · exact ⟨_, m3⟩
theorem boardF_keep {d l : Addr} (b : BoardF C M a F rings edits lim) (k : KeepM d l M M') (hd : d ∉ F) (hl : l ∉ F) : BoardF C M' a F rings edits lim :=
  b.upd fun x hx o h => k x o (fun z => hd (z ▸ hx)) (fun z => hl (z ▸ hx)) h
theorem boardF_all (b : BoardF C M a F rings edits lim) (h : ∀ b o, M b = some o → M' b = some o) : BoardF C M' a F rings edits lim := b.upd fun x _ o e => h x o e
theorem BoardZ.all (b : BoardZ okC gk C M a F rings edits lim) (h : ∀ b o, M b = some o → M' b = some o) : BoardZ okC gk C M' a F rings edits lim := ⟨boardF_all b.b h, b.oc, b.kp⟩
theorem BoardZ.keep {d l : Addr} (b : BoardZ okC gk C M a F rings edits lim) (k : KeepM d l M M') (hd : d ∉ F) (hl : l ∉ F) : BoardZ okC gk C M' a F rings edits lim := ⟨boardF_keep b.b k hd hl, b.oc, b.kp⟩
end
section
variable {P : DK} {PX : DXK} {ds : List D} {M : Mem}
theorem semZ_is_tolerance (h : gZ_is_tolerance ds M P) : ds.length = 1 ∧ wZ_is_tolerance (ends P) (ds.map some ++ List.replicate (1 - ds.length) none) M := by
  obtain ⟨v, rfl, kn, q⟩ := h
  refine ⟨rfl, v, rfl, kn, ?_⟩
  cases v with
  | int i =>
    refine ⟨_, rfl, ?_⟩
    by_cases h0 : (0 : Int) ≤ i
    · rw [decide_eq_true h0]
      show P (.bl (decide (i ≤ 1000000000))) M
      have : isTolZ (.int i) = decide (i ≤ 1000000000) := by
        show decide (0 ≤ i ∧ i ≤ 1000000000) = _
        simp [h0]
      rw [← this]
      exact q
    · rw [decide_eq_false h0]
      show P (.bl false) M
      have : isTolZ (.int i) = false := by
        show decide (0 ≤ i ∧ i ≤ 1000000000) = _
        simp [h0]
      rw [← this]
      exact q
  | _ => first | (cases kn; done) | exact q
theorem semZ_check_place (h : gZ_check_place ds M P PX) : ds.length = 2 ∧ wZ_check_place (endsX P PX) (ds.map some ++ List.replicate (2 - ds.length) none) M := by
  obtain ⟨v, n, rfl, kn, q⟩ := h
  refine ⟨rfl, v, rfl, kn, ?_⟩
  cases v with
  | int i =>
    refine ⟨_, rfl, ?_⟩
    have e : isPlZ (.int i) n = decide (0 ≤ i ∧ i < n) := rfl
    rw [e] at q
    by_cases h0 : (0 : Int) ≤ i
    · rw [decide_eq_true h0]
      refine ⟨_, rfl, ?_⟩
      by_cases h1 : i < n
      · rw [decide_eq_true h1]
        rw [decide_eq_true ⟨h0, h1⟩, if_pos rfl] at q
        exact q
      · rw [decide_eq_false h1]
        rw [decide_eq_false (fun z => h1 z.2), if_neg Bool.false_ne_true] at q
        exact q
    · rw [decide_eq_false h0]
      rw [decide_eq_false (fun z => h0 z.1), if_neg Bool.false_ne_true] at q
      exact ⟨_, rfl, q⟩
  | _ => first | (cases kn; done) | exact q
theorem semZ_check_height (h : gZ_check_height ds M P PX) : ds.length = 1 ∧ wZ_check_height (endsX P PX) (ds.map some ++ List.replicate (1 - ds.length) none) M := by
  obtain ⟨v, rfl, kn, q⟩ := h
  refine ⟨rfl, v, rfl, kn, ?_⟩
  cases e : isHt v with
  | true => rw [e] at q; exact q
  | false => rw [e] at q; exact q
theorem semZ_check_tolerance (h : gZ_check_tolerance ds M P PX) : ds.length = 1 ∧ wZ_check_tolerance (endsX P PX) (ds.map some ++ List.replicate (1 - ds.length) none) M := by
  obtain ⟨v, rfl, kn, q⟩ := h
  refine ⟨rfl, v, rfl, kn, ?_⟩
  cases e : isTolZ v with
  | true => rw [e] at q; exact q
  | false => rw [e] at q; exact q
theorem semZ_insert_height (h : gZ_insert_height ds M P PX) : ds.length = 3 ∧ wZ_insert_height (endsX P PX) (ds.map some ++ List.replicate (3 - ds.length) none) M := by
  obtain ⟨xs, j, v, rfl, hl, hj, q⟩ := h
  refine ⟨rfl, _, rfl, ite2 (fun c => ?_) (fun c => ?_)⟩
  · have c' : 24 ≤ xs.length := by have := of_decide_eq_true c; omega
    rw [if_pos c'] at q
    exact q
  · have c' : ¬ 24 ≤ xs.length := fun z => c (decide_eq_true (by omega))
    rw [if_neg c'] at q
    have e1 : cutD xs none (some (j : Int)) = xs.take j := cutD_to xs j
    have e2 : cutD xs (some (j : Int)) none = xs.drop j := cutD_from xs j
    refine ⟨small_line (by show 1 ≤ 1000000; decide), ?_, ?_⟩
    · rw [e1, List.length_take]
      exact small_line (by show min j xs.length + 1 ≤ 1000000; omega)
    · show _ ∧ P (.tup (cutD xs none (some (j : Int)) ++ [v] ++ cutD xs (some (j : Int)) none)) M
      rw [e1, e2]
      exact ⟨small_line (by simp; omega), q⟩
theorem semZ_remove_place (h : gZ_remove_place ds M P PX) : ds.length = 2 ∧ wZ_remove_place (endsX P PX) (ds.map some ++ List.replicate (2 - ds.length) none) M := by
  obtain ⟨xs, j, rfl, hl, hj, q⟩ := h
  refine ⟨rfl, _, rfl, ite2 (fun c => ?_) (fun c => ?_)⟩
  · have c' : xs.length = 1 := by have := of_decide_eq_true c; omega
    rw [if_pos c'] at q
    exact q
  · have c' : ¬ xs.length = 1 := fun z => c (decide_eq_true (by omega))
    rw [if_neg c'] at q
    have e1 : cutD xs none (some (j : Int)) = xs.take j := cutD_to xs j
    have e2 : cutD xs (some ((j : Int) + 1)) none = xs.drop (j + 1) := cutD_from xs (j + 1)
    refine ⟨?_, ?_⟩
    · rw [e1, e2]
      exact small_line (by simp; omega)
    · show P (.tup (cutD xs none (some (j : Int)) ++ cutD xs (some ((j : Int) + 1)) none)) M
      rw [e1, e2]
      exact q
end
section
variable {okC : Addr → Prop} {gk : Addr → DSpX} {P : DK} {PX : DXK} {ds : List D} {M : Mem}
theorem putZ_states (L1 L2 L : Addr) (lim : Option (Int × Int)) : putD "states" (.obj (.ref L)) (zF L1 L2 lim) = zF L L2 lim := by
  show (if (Str.ofString "states") = (Str.ofString "states") then _ else _) = _
  rw [if_pos rfl]
  rfl
theorem putZ_standing (L1 L2 L : Addr) (lim : Option (Int × Int)) : putD "standing" (.obj (.ref L)) (zF L1 L2 lim) = zF L1 L lim := by
  show (if (Str.ofString "states") = (Str.ofString "standing") then _ else _) = _
  rw [if_neg s_ss]
  show _ :: (if (Str.ofString "standing") = (Str.ofString "standing") then _ else _) = _
  rw [if_pos rfl]
  rfl
theorem putZ_limits (L1 L2 : Addr) (lim l2 : Option (Int × Int)) : putD "limits" (limD l2) (zF L1 L2 lim) = zF L1 L2 l2 := by
  show (if (Str.ofString "states") = (Str.ofString "limits") then _ else _) = _
  rw [if_neg s_sl]
  show _ :: (if (Str.ofString "standing") = (Str.ofString "limits") then _ else _) = _
  rw [if_neg s_tl]
  show _ :: _ :: (if (Str.ofString "limits") = (Str.ofString "limits") then _ else _) = _
  rw [if_pos rfl]
  rfl
theorem semZ_Board___len__ (h : gZ_Board___len__ okC ds M P) : ds.length = 1 ∧ wZ_Board___len__ okC (ends P) (ds.map some ++ List.replicate (1 - ds.length) none) M := by
  obtain ⟨C, a, F, rings, edits, lim, rfl, b, oc, q⟩ := h
  obtain ⟨dx, L1, L2, rfl, m1, m2, m3, ne⟩ := b.ex
  exact ⟨rfl, _, _, _, ⟨a, dx, rfl, m1, oc⟩, zF_standing _ _ _, _, m3, q⟩
theorem semZ_Board_check_room (h : gZ_Board_check_room okC ds M P PX) : ds.length = 1 ∧ wZ_Board_check_room okC (endsX P PX) (ds.map some ++ List.replicate (1 - ds.length) none) M := by
  obtain ⟨C, a, F, rings, edits, lim, rfl, b, oc, q⟩ := h
  obtain ⟨dx, L1, L2, rfl, m1, m2, m3, ne⟩ := b.ex
  refine ⟨rfl, _, _, _, ⟨a, dx, rfl, m1, oc⟩, zF_standing _ _ _, _, m3, _, rfl, ite2 (fun c => ?_) (fun c => ?_)⟩
  · have c' : 60 ≤ edits.length := by have := of_decide_eq_true c; omega
    rw [if_pos c'] at q
    exact q
  · have c' : ¬ 60 ≤ edits.length := fun z => c (decide_eq_true (by omega))
    rw [if_neg c'] at q
    exact q
set_option maxHeartbeats 0 in
theorem semZ_Board_ring (h : gZ_Board_ring okC ds M P PX) : ds.length = 2 ∧ wZ_Board_ring okC (endsX P PX) (ds.map some ++ List.replicate (2 - ds.length) none) M := by
  obtain ⟨C, a, F, rings, edits, lim, v, rfl, b, oc, kn, q⟩ := h
  obtain ⟨dx, L1, L2, rfl, m1, m2, m3, ne⟩ := id b.ex
  have hbl := b.len
  have bad : v ≠ .non → verR rings v = none → (∀ i : Int, v = .int i → ¬ (0 ≤ i ∧ i ≤ (edits.length : Nat))) → PX (Str.ofString "NoVersion") [(Str.ofString "value", v)] M → wSeq (wIf (wOrT (wNotT (wTru (wN g_is_number (wCons (wName 1) (wNil))))) (wNotT (wChain leD leD (wC (.int 0)) (wName 1) (wN lenD (wCons (wFld okC (wName 0) "standing") (wNil)))))) (wRaise1 "NoVersion" "value" (wName 1)) (wNext)) (wRet (wOp ixD (wFld okC (wName 0) "states") (wName 1))) (endsX P PX) [some (.obj (.ref a)), some v] M := by
    intro _ hv hi hp
    refine ⟨v, rfl, kn, ?_⟩
    cases v with
    | int i =>
      refine ⟨_, rfl, ?_⟩
      by_cases h0 : (0 : Int) ≤ i
      · rw [decide_eq_true h0]
        refine ⟨_, _, _, ⟨a, dx, rfl, m1, oc⟩, zF_standing _ _ _, _, m3, _, rfl, ?_⟩
        rw [decide_eq_false (fun z => hi i rfl ⟨h0, z⟩)]
        exact hp
      · rw [decide_eq_false h0]
        exact ⟨_, rfl, hp⟩
    | _ => first | (cases kn; done) | exact hp
  cases v with
  | non =>
    cases e : rings.getLast? with
    | none =>
      rw [List.getLast?_eq_none_iff] at e
      rw [e] at hbl
      cases hbl
    | some hs =>
      have q' : P (ringD hs) M := by
        have e' : verR rings .non = some hs := e
        rw [e'] at q
        exact q
      exact ⟨rfl, _, rfl, _, _, _, ⟨a, dx, rfl, m1, oc⟩, zF_states _ _ _, _, _, m2, atI_lastD (last_ring e), q'⟩
  | int i =>
    refine ⟨rfl, _, rfl, ?_⟩
    by_cases h0 : 0 ≤ i ∧ i ≤ (edits.length : Nat)
    · have hl : i.toNat < rings.length := by omega
      have e : verR rings (.int i) = some rings[i.toNat] := by
        show (if 0 ≤ i then rings[i.toNat]? else none) = _
        rw [if_pos h0.1, List.getElem?_eq_getElem hl]
      rw [e] at q
      refine ⟨_, rfl, rfl, _, rfl, ?_⟩
      rw [decide_eq_true h0.1]
      refine ⟨_, _, _, ⟨a, dx, rfl, m1, oc⟩, zF_standing _ _ _, _, m3, _, rfl, ?_⟩
      rw [decide_eq_true h0.2]
      obtain ⟨n, rfl⟩ : ∃ n : Nat, i = (n : Int) := ⟨i.toNat, by omega⟩
      exact ⟨_, _, _, ⟨a, dx, rfl, m1, oc⟩, zF_states _ _ _, _, _, m2, atI_nat (by rw [List.getElem?_map, List.getElem?_eq_getElem (by omega : n < rings.length)]; rfl), q⟩
    · have e : verR rings (.int i) = none := by
        show (if 0 ≤ i then rings[i.toNat]? else none) = _
        split
        · exact List.getElem?_eq_none (by omega)
        · rfl
      rw [e] at q
      exact bad (fun z => by cases z) e (fun j hj => by cases hj; exact h0) q
  | obj _ => cases kn
  | _ => exact ⟨rfl, _, rfl, bad (fun z => by cases z) rfl (fun j hj => by cases hj) q⟩
theorem isTolZ_int {t : D} (h : isTolZ t = true) : t = .int (intZ t) ∧ 0 ≤ intZ t ∧ intZ t ≤ 1000000000 := by
  cases t with
  | int i => exact ⟨rfl, of_decide_eq_true h⟩
  | _ => cases h
theorem verR_last {rings : List (List Int)} {hs : List Int} (h : rings.getLast? = some hs) : verR rings .non = some hs := h
set_option maxHeartbeats 0 in
theorem semZ_Board_keep (h : gZ_Board_keep okC ds M P PX) : ds.length = 3 ∧ wZ_Board_keep okC (endsX P PX) (ds.map some ++ List.replicate (3 - ds.length) none) M := by
  obtain ⟨C, a, F, rings, edits, lim, e, hs, rfl, b, oc, hl, ok, q⟩ := h
  have hbl := b.len
  obtain ⟨dx, L1, L2, rfl, m1, m2, m3, ne⟩ := id b.ex
  have n1 : a ≠ L1 := fun z => by rw [z, m2] at m1; cases m1
  have n2 : a ≠ L2 := fun z => by rw [z, m3] at m1; cases m1
  have m1' : updM M L2 (.dl (edits ++ [e])) a = some (.ins C dx (zF L1 L2 lim)) := by rw [updM_ne n2]; exact m1
  have m2' : updM M L2 (.dl (edits ++ [e])) L1 = some (.dl (rings.map ringD)) := by rw [updM_ne ne]; exact m2
  have m1'' : updM (updM M L2 (.dl (edits ++ [e]))) L1 (.dl (rings.map ringD ++ [ringD hs])) a = some (.ins C dx (zF L1 L2 lim)) := by rw [updM_ne n1]; exact m1'
  have m3'' : updM (updM M L2 (.dl (edits ++ [e]))) L1 (.dl (rings.map ringD ++ [ringD hs])) L2 = some (.dl (edits ++ [e])) := by rw [updM_ne ne.symm, updM_same]
  refine ⟨rfl, _, _, _, ⟨a, dx, rfl, m1, oc⟩, zF_standing _ _ _, ⟨_, _, rfl, m3⟩, _, m3, by omega, ?_⟩
  refine ⟨_, _, _, ⟨a, dx, rfl, m1', oc⟩, zF_states _ _ _, ⟨_, _, rfl, m2'⟩, _, m2', by rw [List.length_map]; omega, ?_⟩
  refine ⟨_, _, _, ⟨a, dx, rfl, m1'', oc⟩, zF_standing _ _ _, _, m3'', ?_⟩
  have eL : (edits ++ [e]).length = edits.length + 1 := by rw [List.length_append]; rfl
  show P (.int (((edits ++ [e]).length : Nat) : Int)) _
  rw [eL]
  refine q _ ⟨⟨dx, L1, L2, rfl, m1'', by rw [updM_same, List.map_append]; rfl, m3'', ne⟩, by rw [List.length_append, List.length_append]; show _ + 1 = _ + 1 + 1; omega, by rw [eL]; omega, fun x hx => ?_, b.lm⟩ fun x o hx hm => ?_
  · rcases List.mem_append.mp hx with hx | hx
    · exact b.ok x hx
    · rw [List.mem_singleton.mp hx]
      exact ok
  · simp only [List.mem_cons, List.not_mem_nil, or_false, not_or] at hx
    rw [updM_ne hx.2.1, updM_ne hx.2.2]
    exact hm
/-- what keep asks of the caller -/
theorem keep_end {C a : Addr} {F : List Addr} {rings : List (List Int)} {edits : List D} {lim : Option (Int × Int)} {e : D} {hs : List Int} (b : BoardZ okC gk C M a F rings edits lim) (hl : edits.length < 60) (ok : RingOk hs) (q : endR C M a F rings edits lim e P PX (calmR lim hs)) : gk C [.obj (.ref a), e, ringD hs] M P PX :=
  b.kp _ _ _ _ ⟨a, F, rings, edits, e, hs, rfl, b.b, hl, ok, q⟩
theorem isPlZ_int {v : D} {n : Nat} (h : isPlZ v n = true) : v = .int (natZ v : Nat) ∧ natZ v < n := by
  cases v with
  | int i =>
    have := of_decide_eq_true (show decide (0 ≤ i ∧ i < (n : Int)) = true from h)
    have e : ((i.toNat : Nat) : Int) = i := by omega
    exact ⟨by show D.int i = D.int ((i.toNat : Nat) : Int); rw [e], by show i.toNat < n; omega⟩
  | _ => cases h
theorem isHt_int {v : D} (h : isHt v = true) : v = .int (intZ v) ∧ Ht (intZ v) := by
  cases v with
  | int i =>
    have z : -1000000000 ≤ i ∧ i ≤ 1000000000 := of_decide_eq_true (show decide (-1000000000 ≤ i ∧ i ≤ 1000000000) = true from h)
    exact ⟨rfl, z⟩
  | _ => cases h
set_option maxHeartbeats 0 in
theorem semZ_Board_put (h : gZ_Board_put okC gk ds M P PX) : ds.length = 3 ∧ wZ_Board_put okC gk (endsX P PX) (ds.map some ++ List.replicate (4 - ds.length) none) M := by
  obtain ⟨C, a, F, rings, edits, lim, hs, p, h, rfl, b, kp, kh, hv, q⟩ := h
  obtain ⟨f1, i1, i2⟩ := b.b.ins b.oc (m := "check_room") (by decide)
  obtain ⟨f2, j1, j2⟩ := b.b.ins b.oc (m := "ring") (by decide)
  obtain ⟨f3, k1, k2⟩ := b.b.ins b.oc (m := "keep") (by decide)
  have ok := b.b.ok hs (List.mem_of_getLast? hv)
  have hlm : (hs.map D.int).length = hs.length := List.length_map ..
  unfold putR at q
  refine ⟨rfl, _, f1, i1, i2, C, a, F, rings, edits, lim, rfl, b.b, b.oc, ?_⟩
  by_cases c1 : 60 ≤ edits.length
  · rw [if_pos c1] at q ⊢
    exact q
  rw [if_neg c1] at q ⊢
  refine ⟨_, f2, j1, j2, C, a, F, rings, edits, lim, .non, rfl, b.b, b.oc, rfl, ?_⟩
  rw [verR_last hv]
  refine ⟨p, _, rfl, kp, ?_⟩
  show if isPlZ p (((hs.map D.int).length : Nat) : Int) = true then _ else _
  rw [hlm]
  cases c2 : isPlZ p (hs.length : Nat) with
  | false => rw [c2] at q; exact q
  | true =>
    rw [c2] at q
    obtain ⟨e1, l1⟩ := isPlZ_int c2
    refine ⟨h, rfl, kh, ?_⟩
    cases c3 : isHt h with
    | false => rw [c3] at q; exact q
    | true =>
      rw [c3] at q
      obtain ⟨e2, l2⟩ := isHt_int c3
      refine ⟨_, f3, k1, k2, small_line (by show 3 ≤ 1000000; decide), hs.map .int, natZ p, .int (intZ h), by rw [← e1, ← e2]; rfl, by have := ok.2.1; omega, by omega, ?_⟩
      rw [put_map]
      exact keep_end b (by omega) (put_ok ok l1 l2) q
set_option maxHeartbeats 0 in
theorem semZ_Board_insert (h : gZ_Board_insert okC gk ds M P PX) : ds.length = 3 ∧ wZ_Board_insert okC gk (endsX P PX) (ds.map some ++ List.replicate (4 - ds.length) none) M := by
  obtain ⟨C, a, F, rings, edits, lim, hs, p, h, rfl, b, kp, kh, hv, q⟩ := h
  obtain ⟨f1, i1, i2⟩ := b.b.ins b.oc (m := "check_room") (by decide)
  obtain ⟨f2, j1, j2⟩ := b.b.ins b.oc (m := "ring") (by decide)
  obtain ⟨f3, k1, k2⟩ := b.b.ins b.oc (m := "keep") (by decide)
  have ok := b.b.ok hs (List.mem_of_getLast? hv)
  have hlm : (hs.map D.int).length = hs.length := List.length_map ..
  unfold insR at q
  refine ⟨rfl, _, f1, i1, i2, C, a, F, rings, edits, lim, rfl, b.b, b.oc, ?_⟩
  by_cases c1 : 60 ≤ edits.length
  · rw [if_pos c1] at q ⊢
    exact q
  rw [if_neg c1] at q ⊢
  refine ⟨_, f2, j1, j2, C, a, F, rings, edits, lim, .non, rfl, b.b, b.oc, rfl, ?_⟩
  rw [verR_last hv]
  refine ⟨p, _, rfl, kp, ?_⟩
  show if isPlZ p ((((hs.map D.int).length : Nat) : Int) + 1) = true then _ else _
  rw [hlm]
  have c0 : ((hs.length : Nat) : Int) + 1 = ((hs.length + 1 : Nat) : Int) := by omega
  rw [c0]
  cases c2 : isPlZ p ((hs.length + 1 : Nat) : Int) with
  | false => rw [c0, c2] at q; exact q
  | true =>
    rw [c0, c2] at q
    obtain ⟨e1, l1⟩ := isPlZ_int c2
    refine ⟨h, rfl, kh, ?_⟩
    cases c3 : isHt h with
    | false => rw [c3] at q; exact q
    | true =>
      rw [c3] at q
      obtain ⟨e2, l2⟩ := isHt_int c3
      refine ⟨_, f3, k1, k2, small_line (by show 3 ≤ 1000000; decide), hs.map .int, natZ p, .int (intZ h), by rw [← e1, ← e2]; rfl, by have := ok.2.1; omega, by omega, ?_⟩
      rw [hlm]
      by_cases c4 : 24 ≤ hs.length
      · rw [if_pos c4] at q ⊢
        exact q
      · rw [if_neg c4] at q ⊢
        rw [ins_map]
        exact keep_end b (by omega) (ins_ok ok (by omega) (by omega) l2) q
set_option maxHeartbeats 0 in
theorem semZ_Board_remove (h : gZ_Board_remove okC gk ds M P PX) : ds.length = 2 ∧ wZ_Board_remove okC gk (endsX P PX) (ds.map some ++ List.replicate (3 - ds.length) none) M := by
  obtain ⟨C, a, F, rings, edits, lim, hs, p, rfl, b, kp, hv, q⟩ := h
  obtain ⟨f1, i1, i2⟩ := b.b.ins b.oc (m := "check_room") (by decide)
  obtain ⟨f2, j1, j2⟩ := b.b.ins b.oc (m := "ring") (by decide)
  obtain ⟨f3, k1, k2⟩ := b.b.ins b.oc (m := "keep") (by decide)
  have ok := b.b.ok hs (List.mem_of_getLast? hv)
  have hlm : (hs.map D.int).length = hs.length := List.length_map ..
  unfold remR at q
  refine ⟨rfl, _, f1, i1, i2, C, a, F, rings, edits, lim, rfl, b.b, b.oc, ?_⟩
  by_cases c1 : 60 ≤ edits.length
  · rw [if_pos c1] at q ⊢
    exact q
  rw [if_neg c1] at q ⊢
  refine ⟨_, f2, j1, j2, C, a, F, rings, edits, lim, .non, rfl, b.b, b.oc, rfl, ?_⟩
  rw [verR_last hv]
  refine ⟨p, _, rfl, kp, ?_⟩
  show if isPlZ p (((hs.map D.int).length : Nat) : Int) = true then _ else _
  rw [hlm]
  cases c2 : isPlZ p (hs.length : Nat) with
  | false => rw [c2] at q; exact q
  | true =>
    rw [c2] at q
    obtain ⟨e1, l1⟩ := isPlZ_int c2
    refine ⟨_, f3, k1, k2, small_line (by show 2 ≤ 1000000; decide), hs.map .int, natZ p, by rw [← e1]; rfl, by have := ok.2.1; omega, by omega, ?_⟩
    rw [hlm]
    by_cases c4 : hs.length = 1
    · rw [if_pos c4] at q ⊢
      exact q
    · rw [if_neg c4] at q ⊢
      rw [del_map]
      exact keep_end b (by omega) (del_ok ok l1 (by have := ok.1; omega)) q
end
end RS
set_option Elab.async false
set_option linter.all false
set_option maxRecDepth 100000
namespace RS
open PySem PySem.Spec PyProof.Rows L2
/-! range(i, j, -1) -/
/-! edits as values -/
/-! answers as values -/
theorem vInt {i : Int} (h : i.natAbs < 2 ^ 100) : Val 1 0 (.int i) := ⟨by simp only [Clm]; exact h, by simp only [D.size]; exact Nat.le_refl _, by simp only [D.deep]; exact Nat.le_refl _⟩
theorem vRing {hs : List Int} (h : ∀ x ∈ hs, Ht x) : Val (hs.length + 1) 1 (ringD hs) := by
  refine Val.tup (S := hs.length) (k := 0) (fun y hy => ?_) (by rw [sizes_ints]; exact Nat.le_refl _) (fun y hy => ?_)
  · obtain ⟨x, hx, rfl⟩ := List.mem_map.mp hy
    have := h x hx
    unfold Ht at this
    exact (vInt (by omega)).clm
  · obtain ⟨x, hx, rfl⟩ := List.mem_map.mp hy
    simp only [D.deep]
    exact Nat.le_refl _
end RS
set_option Elab.async false
set_option linter.all false
set_option maxRecDepth 100000
/-! The words of a board; lists of edits as values. -/
namespace RS
open PySem PySem.Spec PyProof.Rows L2
end RS
set_option Elab.async false
set_option linter.all false
set_option maxRecDepth 100000
namespace RS
open PySem PySem.Spec PyProof.Rows L2
section
variable {okC : Addr → Prop} {gk : Addr → DSpX} {P : DK} {PX : DXK} {ds : List D} {M : Mem}
set_option maxHeartbeats 0 in
theorem semZ_Board___init__ (h : gZ_Board___init__ okC ds M P) : ds.length = 2 ∧ wZ_Board___init__ okC (ends P) (ds.map some ++ List.replicate (3 - ds.length) none) M := by
  obtain ⟨a, dx, C, hs, rfl, m, oc, ok, q⟩ := h
  refine ⟨rfl, hs, rfl, ok.1, ok.2.1, ok.2.2, _, rfl, ?_⟩
  refine ⟨small_line (by show 1 ≤ 1000000; decide), fun L1 n1 => ?_⟩
  have a1 : a ≠ L1 := fun z => by rw [z, n1] at m; cases m
  have m1 : updM M L1 (.dl [ringD hs]) a = some (.ins C dx []) := by rw [updM_ne a1]; exact m
  refine ⟨a, C, dx, [], rfl, m1, oc, by show 0 < 1000; decide, ?_⟩
  rw [put1]
  refine ⟨small_line (by show 0 ≤ 1000000; decide), fun L2 n2 => ?_⟩
  have a2 : a ≠ L2 := fun z => by rw [z, updM_same] at n2; cases n2
  have l2 : L1 ≠ L2 := fun z => by rw [← z, updM_ne a1.symm, updM_same] at n2; cases n2
  have n2' : M L2 = none := by rwa [updM_ne a2.symm, updM_ne l2.symm] at n2
  have m2 : updM (updM (updM M L1 (.dl [ringD hs])) a (.ins C dx [("states", .obj (.ref L1))])) L2 (.dl []) a = some (.ins C dx [("states", .obj (.ref L1))]) := by rw [updM_ne a2, updM_same]
  refine ⟨a, C, dx, _, rfl, m2, oc, by show 1 < 1000; decide, ?_⟩
  rw [put2]
  refine ⟨a, C, dx, _, rfl, updM_same, oc, by show 2 < 1000; decide, ?_⟩
  rw [put3]
  refine q _ [a, L1, L2] ⟨⟨dx, L1, L2, rfl, updM_same, ?_, ?_, l2⟩, rfl, by decide, fun x hx => by rw [List.mem_singleton.mp hx]; exact ok, fun p z => by cases z⟩ (fun x o hx hm => ?_) (fun x hx => ?_)
  · rw [updM_ne a1.symm, updM_ne a1.symm, updM_ne l2, updM_ne a1.symm, updM_same]
    rfl
  · rw [updM_ne a2.symm, updM_ne a2.symm, updM_same]
  · have xa : x ≠ a := fun z => hx (z ▸ List.mem_cons_self)
    have x1 : x ≠ L1 := fun z => by rw [z, n1] at hm; cases hm
    have x2 : x ≠ L2 := fun z => by rw [z, n2'] at hm; cases hm
    rw [updM_ne xa, updM_ne xa, updM_ne x2, updM_ne xa, updM_ne x1]
    exact hm
  · simp only [List.mem_cons, List.not_mem_nil, or_false] at hx
    rcases hx with rfl | rfl | rfl
    · exact .inl List.mem_cons_self
    · exact .inr n1
    · exact .inr n2'
set_option maxHeartbeats 0 in
theorem semZ_Board_go_back (h : gZ_Board_go_back okC ds M P) : ds.length = 2 ∧ wZ_Board_go_back okC (ends P) (ds.map some ++ List.replicate (2 - ds.length) none) M := by
  obtain ⟨C, a, F, rings, edits, lim, v, rfl, b, oc, hv, q⟩ := h
  have hbl := b.len
  obtain ⟨dx, L1, L2, rfl, m1, m2, m3, ne⟩ := id b.ex
  have n1 : a ≠ L1 := fun z => by rw [z, m2] at m1; cases m1
  have n2 : a ≠ L2 := fun z => by rw [z, m3] at m1; cases m1
  refine ⟨rfl, _, _, _, ⟨a, dx, rfl, m1, oc⟩, zF_standing _ _ _, _, m3, fun N2 e2 => ?_⟩
  rw [cutD_to]
  have x1 : N2 ≠ a := fun z => by rw [z, m1] at e2; cases e2
  have x2 : N2 ≠ L1 := fun z => by rw [z, m2] at e2; cases e2
  have x3 : N2 ≠ L2 := fun z => by rw [z, m3] at e2; cases e2
  refine ⟨a, C, dx, zF L1 L2 lim, rfl, by rw [updM_ne x1.symm]; exact m1, oc, by show 3 < 1000; decide, ?_⟩
  rw [putZ_standing]
  refine ⟨_, _, _, ⟨a, dx, rfl, updM_same, oc⟩, zF_states _ _ _, _, by rw [updM_ne n1.symm, updM_ne x2.symm]; exact m2, fun N1 e1 => ?_⟩
  have e1' : M N1 = none ∧ N1 ≠ N2 ∧ N1 ≠ a := by
    have q1 : N1 ≠ a := fun z => by rw [z, updM_same] at e1; cases e1
    rw [updM_ne q1] at e1
    have q2 : N1 ≠ N2 := fun z => by rw [z, updM_same] at e1; cases e1
    rw [updM_ne q2] at e1
    exact ⟨e1, q2, q1⟩
  obtain ⟨e1n, y1, y2⟩ := e1'
  have c2 : cutD (rings.map ringD) none (some ((v : Int) + 1)) = (rings.map ringD).take (v + 1) := cutD_to _ (v + 1)
  rw [c2]
  refine ⟨a, C, dx, zF L1 N2 lim, rfl, by rw [updM_ne y2.symm, updM_same], oc, by show 3 < 1000; decide, ?_⟩
  rw [putZ_states]
  refine q _ [a, N1, N2] ⟨⟨dx, N1, N2, rfl, updM_same, ?_, ?_, y1⟩, ?_, ?_, fun x hx => b.ok x (List.mem_of_mem_take hx), b.lm⟩ (fun x o hx hm => ?_) (fun x hx => ?_)
  · rw [updM_ne y2, updM_same, List.map_take]
  · rw [updM_ne x1, updM_ne y1.symm, updM_ne x1, updM_same]
  · rw [List.length_take, List.length_take]
    omega
  · rw [List.length_take]
    have := b.few
    omega
  · simp only [List.mem_cons, List.not_mem_nil, or_false, not_or] at hx
    have z1 : x ≠ N1 := fun z => by rw [z, e1n] at hm; cases hm
    have z2 : x ≠ N2 := fun z => by rw [z, e2] at hm; cases hm
    rw [updM_ne hx.1, updM_ne z1, updM_ne hx.1, updM_ne z2]
    exact hm
  · simp only [List.mem_cons, List.not_mem_nil, or_false] at hx
    rcases hx with rfl | rfl | rfl
    · exact .inl List.mem_cons_self
    · exact .inr e1n
    · exact .inr e2
set_option maxHeartbeats 0 in
theorem semZ_Board_undo (h : gZ_Board_undo okC ds M P PX) : ds.length = 1 ∧ wZ_Board_undo okC (endsX P PX) (ds.map some ++ List.replicate (1 - ds.length) none) M := by
  obtain ⟨C, a, F, rings, edits, lim, rfl, b, oc, q⟩ := h
  obtain ⟨dx, L1, L2, e, m1, m2, m3, ne⟩ := id b.ex
  obtain ⟨f1, i1, i2⟩ := b.ins oc (m := "go_back") (by decide)
  refine ⟨rfl, _, _, _, ⟨a, dx, rfl, m1, oc⟩, zF_standing _ _ _, L2, edits, rfl, m3, ?_⟩
  cases edits with
  | nil => exact q
  | cons x r =>
    refine ⟨_, f1, i1, i2, _, _, _, ⟨a, dx, rfl, m1, oc⟩, zF_standing _ _ _, _, m3, ?_⟩
    refine ⟨C, a, F, rings, x :: r, lim, r.length, ?_, b, oc, by simp, fun M' F' b' u n => ?_⟩
    · show [D.obj (.ref a), D.int ((((x :: r).length : Nat) : Int) - 1)] = _
      rw [show (((x :: r).length : Nat) : Int) - 1 = ((r.length : Nat) : Int) by rw [List.length_cons]; omega]
    · exact q M' F' b' u n
end
end RS
set_option Elab.async false
set_option linter.all false
set_option maxRecDepth 100000
namespace RS
open PySem PySem.Spec PyProof.Rows L2
theorem deck_all {M M' : Mem} {d l : Addr} {n : Int} (D : DeckM M d l n) (h : ∀ b o, M b = some o → M' b = some o) : DeckM M' d l n := by
  obtain ⟨cs, c1, c2, c3⟩ := D.cards
  exact ⟨h _ _ D.top, ⟨cs, h _ _ c1, c2, c3⟩, D.ne, D.n0⟩
end RS
set_option Elab.async false
set_option linter.all false
set_option maxRecDepth 100000
namespace RS
open PySem PySem.Spec PyProof.Rows L2 RS
/-- an edit with any values -/
inductive Edz where
  | put (p h : D) | ins (p h : D) | rem (p : D)
def Edz.d : Edz → D
  | .put p h => .tup [.str (Str.ofString "put"), p, h]
  | .ins p h => .tup [.str (Str.ofString "insert"), p, h]
  | .rem p => .tup [.str (Str.ofString "remove"), p]
def Edz.kn : Edz → Bool
  | .put p h => p.known && h.known
  | .ins p h => p.known && h.known
  | .rem p => p.known
def Edz.res (lim : Option (Int × Int)) (n : Nat) (hs : List Int) : Edz → Rs
  | .put p h => putR lim n hs p h
  | .ins p h => insR lim n hs p h
  | .rem p => remR lim n hs p
def gDoZ (okC : Addr → Prop) (gk : Addr → DSpX) : DSpX := fun ds M P PX => ∃ (C a : Addr) (F : List Addr) (rings : List (List Int)) (edits : List D) (lim : Option (Int × Int)) (hs : List Int) (e : Edz), ds = [.obj (.ref a), e.d] ∧ BoardZ okC gk C M a F rings edits lim ∧ e.kn = true ∧ rings.getLast? = some hs ∧
  endR C M a F rings edits lim e.d P PX (e.res lim edits.length hs)
def w_doZ (okC : Addr → Prop) (gk : Addr → DSpX) : DS := wSeq (wIf (wCmpT eqD (wOp ixD (wName 1) (wC (.int 0))) (wC (.str (Str.ofString "put")))) (wRetX (wMetX okC "put" (fun ds _ => ds) (fun _ => (gZ_Board_put okC gk)) (wName 0) (wCons (wOp ixD (wName 1) (wC (.int 1))) (wCons (wOp ixD (wName 1) (wC (.int 2))) (wNil))) (wNil))) (wNext)) (wSeq (wIf (wCmpT eqD (wOp ixD (wName 1) (wC (.int 0))) (wC (.str (Str.ofString "insert")))) (wRetX (wMetX okC "insert" (fun ds _ => ds) (fun _ => (gZ_Board_insert okC gk)) (wName 0) (wCons (wOp ixD (wName 1) (wC (.int 1))) (wCons (wOp ixD (wName 1) (wC (.int 2))) (wNil))) (wNil))) (wNext)) (wRetX (wMetX okC "remove" (fun ds _ => ds) (fun _ => (gZ_Board_remove okC gk)) (wName 0) (wCons (wOp ixD (wName 1) (wC (.int 1))) (wNil)) (wNil))))
end RS
set_option Elab.async false
set_option linter.all false
set_option maxRecDepth 100000
namespace RS
open PySem PySem.Spec PyProof.Rows L2
section
variable {okC : Addr → Prop} {gk : Addr → DSpX} {P : DK} {PX : DXK} {ds : List D} {M : Mem}
theorem sem_doZ (h : gDoZ okC gk ds M P PX) : ds.length = 2 ∧ w_doZ okC gk (endsX P PX) (ds.map some ++ List.replicate (2 - ds.length) none) M := by
  obtain ⟨C, a, F, rings, edits, lim, hs, e, rfl, b, kn, hv, q⟩ := h
  cases e with
  | put p x =>
    obtain ⟨fs, i1, i2⟩ := b.b.ins b.oc (m := "put") (by decide)
    have kn' := Bool.and_eq_true_iff.mp kn
    refine ⟨rfl, _, rfl, _, rfl, ?_⟩
    rw [decide_eq_true rfl]
    exact ⟨_, fs, i1, i2, _, rfl, _, rfl, C, a, F, rings, edits, lim, hs, p, x, rfl, b, kn'.1, kn'.2, hv, q⟩
  | ins p x =>
    obtain ⟨fs, i1, i2⟩ := b.b.ins b.oc (m := "insert") (by decide)
    have kn' := Bool.and_eq_true_iff.mp kn
    refine ⟨rfl, _, rfl, _, rfl, ?_⟩
    rw [decide_eq_false sne1]
    refine ⟨_, rfl, _, rfl, ?_⟩
    rw [decide_eq_true rfl]
    exact ⟨_, fs, i1, i2, _, rfl, _, rfl, C, a, F, rings, edits, lim, hs, p, x, rfl, b, kn'.1, kn'.2, hv, q⟩
  | rem p =>
    obtain ⟨fs, i1, i2⟩ := b.b.ins b.oc (m := "remove") (by decide)
    refine ⟨rfl, _, rfl, _, rfl, ?_⟩
    rw [decide_eq_false sne2]
    refine ⟨_, rfl, _, rfl, ?_⟩
    rw [decide_eq_false sne3]
    exact ⟨_, fs, i1, i2, _, rfl, C, a, F, rings, edits, lim, hs, p, rfl, b, kn, hv, q⟩
end
/-- a right edit, as one with any values -/
def Ed.z : Ed → Edz
  | .put j h => .put (.int (j : Nat)) (.int h)
  | .ins j h => .ins (.int (j : Nat)) (.int h)
  | .rem j => .rem (.int (j : Nat))
theorem Ed.zd (e : Ed) : e.z.d = e.d := by cases e <;> rfl
theorem Ed.zkn (e : Ed) : e.z.kn = true := by cases e <;> rfl
theorem isPlZ_nat {j n : Nat} : isPlZ (.int (j : Nat)) (n : Nat) = decide (j < n) := by
  show decide ((0 : Int) ≤ (j : Int) ∧ (j : Int) < (n : Int)) = _
  exact decide_eq_decide.mpr (by omega)
theorem Ed.zres {lim : Option (Int × Int)} {n : Nat} {hs : List Int} {e : Ed} (h : e.ok hs) (hn : n < 60) : e.z.res lim n hs = calmR lim (e.app hs) := by
  cases e with
  | put j x =>
    show putR lim n hs _ _ = _
    unfold putR
    rw [if_neg (by omega), isPlZ_nat, decide_eq_true h.1, if_neg (by simp), isHt_of h.2, if_neg (by simp)]
    rfl
  | ins j x =>
    show insR lim n hs _ _ = _
    unfold insR
    have e : isPlZ (.int (j : Nat)) ((hs.length : Nat) + 1 : Int) = true := by
      have := isPlZ_nat (j := j) (n := hs.length + 1)
      rw [decide_eq_true (by have := h.1; omega)] at this
      exact this
    rw [if_neg (by omega), e, if_neg (by simp), isHt_of h.2.2, if_neg (by simp), if_neg (by have := h.2.1; omega)]
    rfl
  | rem j =>
    show remR lim n hs _ = _
    unfold remR
    rw [if_neg (by omega), isPlZ_nat, decide_eq_true h.1, if_neg (by simp), if_neg (by have := h.2; omega)]
    rfl
end RS
set_option Elab.async false
set_option linter.all false
set_option maxRecDepth 100000
/-! The world of a law about one board: the deck, the board, lists of the law's own; what a suite sees. -/
namespace RS
open PySem PySem.Spec PyProof.Rows L2
/-- the deck, a board, lists of the law's own -/
structure LW (okC : Addr → Prop) (gk : Addr → DSpX) (C d l a : Addr) (F : List Addr) (M : Mem) (n : Int) (R : List (List Int)) (eds : List D) (lim : Option (Int × Int)) (os : List (Addr × List D)) : Prop where
  bd : BoardZ okC gk C M a F R eds lim
  dk : DeckM M d l n
  ap : d ∉ F ∧ l ∉ F
  own : ∀ p ∈ os, M p.1 = some (.dl p.2)
  out : ∀ p ∈ os, p.1 ∉ F ∧ p.1 ≠ d ∧ p.1 ≠ l
  nd : (os.map (·.1)).Nodup
section
variable {okC : Addr → Prop} {gk : Addr → DSpX} {C d l a : Addr} {F F' : List Addr} {M M' : Mem} {n n' : Int} {R R' : List (List Int)} {eds eds' : List D} {lim : Option (Int × Int)} {os os1 os2 : List (Addr × List D)} {L : Addr} {xs ys : List D}
theorem LW.draw (w : LW okC gk C d l a F M n R eds lim os) (D : DeckM M' d l n') (k : KeepM d l M M') : LW okC gk C d l a F M' n' R eds lim os :=
  ⟨w.bd.keep k w.ap.1 w.ap.2, D, w.ap, fun p hp => k _ _ (w.out p hp).2.1 (w.out p hp).2.2 (w.own p hp), w.out, w.nd⟩
theorem LW.sub (w : LW okC gk C d l a F M n R eds lim os) (s : Sub M M') : LW okC gk C d l a F M' n R eds lim os :=
  ⟨w.bd.all s, deck_all w.dk s, w.ap, fun p hp => s _ _ (w.own p hp), w.out, w.nd⟩
theorem LW.ne (w : LW okC gk C d l a F M n R eds lim os) {p : Addr × List D} (hp : p ∈ os) : p.1 ∉ F ∧ p.1 ≠ d ∧ p.1 ≠ l := w.out p hp
theorem boardF_upd {o : MO} (b : BoardF C M a F R eds lim) (h : L ∉ F) : BoardF C (updM M L o) a F R eds lim := b.upd fun x hx o e => by
  have ne : x ≠ L := fun z => h (z ▸ hx)
  rw [updM_ne ne]
  exact e
theorem deckZ_upd {o : MO} (D : DeckM M d l n) (h1 : L ≠ d) (h2 : L ≠ l) : DeckM (updM M L o) d l n := by
  obtain ⟨cs, c1, c2, c3⟩ := D.cards
  exact ⟨by rw [updM_ne (Ne.symm h1)]; exact D.top, ⟨cs, by rw [updM_ne (Ne.symm h2)]; exact c1, c2, c3⟩, D.ne, D.n0⟩
/-- a list of one's own is another one now -/
theorem LW.set (w : LW okC gk C d l a F M n R eds lim (os1 ++ (L, xs) :: os2)) (ys : List D) : LW okC gk C d l a F (updM M L (.dl ys)) n R eds lim (os1 ++ (L, ys) :: os2) := by
  have hL := w.out (L, xs) (by simp)
  have nd := w.nd
  rw [List.map_append, List.map_cons] at nd
  have n1 : L ∉ os1.map (·.1) ∧ L ∉ os2.map (·.1) := by
    rw [List.nodup_append] at nd
    obtain ⟨_, a2, a3⟩ := nd
    exact ⟨fun z => a3 _ z _ List.mem_cons_self rfl, (List.nodup_cons.mp a2).1⟩
  refine ⟨⟨boardF_upd w.bd.b hL.1, w.bd.oc, w.bd.kp⟩, deckZ_upd w.dk hL.2.1 hL.2.2, w.ap, fun p hp => ?_, fun p hp => ?_, by rw [List.map_append, List.map_cons]; exact nd⟩
  · rcases List.mem_append.mp hp with h | h
    · have ne : p.1 ≠ L := fun z => n1.1 (z ▸ List.mem_map_of_mem h)
      rw [updM_ne ne]
      exact w.own p (List.mem_append_left _ h)
    · rcases List.mem_cons.mp h with rfl | h
      · exact updM_same
      · have ne : p.1 ≠ L := fun z => n1.2 (z ▸ List.mem_map_of_mem h)
        rw [updM_ne ne]
        exact w.own p (List.mem_append_right _ (List.mem_cons_of_mem _ h))
  · rcases List.mem_append.mp hp with h | h
    · exact w.out p (List.mem_append_left _ h)
    · rcases List.mem_cons.mp h with rfl | h
      · exact hL
      · exact w.out p (List.mem_append_right _ (List.mem_cons_of_mem _ h))
/-- one more list of one's own -/
theorem LW.new (w : LW okC gk C d l a F M n R eds lim os) (h : M L = none) (ys : List D) : LW okC gk C d l a F (updM M L (.dl ys)) n R eds lim ((L, ys) :: os) := by
  have off : ∀ {x : Addr} {o : MO}, M x = some o → x ≠ L := fun {x o} e z => by rw [z, h] at e; cases e
  obtain ⟨⟨o1, h1⟩, ⟨o2, h2⟩⟩ := deck_there w.dk
  refine ⟨⟨w.bd.b.upd fun x hx o e => by rw [updM_ne (off e)]; exact e, w.bd.oc, w.bd.kp⟩, deck_all w.dk fun x o e => by rw [updM_ne (off e)]; exact e, w.ap, fun p hp => ?_, fun p hp => ?_, ?_⟩
  · rcases List.mem_cons.mp hp with rfl | hp
    · exact updM_same
    · rw [updM_ne (off (w.own p hp))]
      exact w.own p hp
  · rcases List.mem_cons.mp hp with rfl | hp
    · exact ⟨fun z => by obtain ⟨o, e⟩ := w.bd.b.there z; exact off e rfl, fun z => off h1 z.symm, fun z => off h2 z.symm⟩
    · exact w.out p hp
  · rw [List.map_cons, List.nodup_cons]
    refine ⟨fun z => ?_, w.nd⟩
    obtain ⟨p, hp, e⟩ := List.mem_map.mp z
    exact off (w.own p hp) e
theorem LW.at0 {q : Addr × List D} (w : LW okC gk C d l a F M n R eds lim (q :: os)) : M q.1 = some (.dl q.2) := w.own q List.mem_cons_self
theorem LW.set0 (w : LW okC gk C d l a F M n R eds lim ((L, xs) :: os)) (ys : List D) : LW okC gk C d l a F (updM M L (.dl ys)) n R eds lim ((L, ys) :: os) := LW.set (os1 := []) w ys
/-- a list that is no longer of interest -/
theorem LW.drop {p : Addr × List D} (w : LW okC gk C d l a F M n R eds lim (p :: os)) : LW okC gk C d l a F M n R eds lim os :=
  ⟨w.bd, w.dk, w.ap, fun q hq => w.own q (List.mem_cons_of_mem _ hq), fun q hq => w.out q (List.mem_cons_of_mem _ hq), (List.nodup_cons.mp (by rw [← List.map_cons]; exact w.nd)).2⟩
end
/-- a new board -/
theorem mkZ {okC : Addr → Prop} {C a dx : Addr} {M : Mem} {gs : List Int} {Q : Mem → Prop} (oc : okC C) (na : M a = none) (ok : RingOk gs) (h : ∀ F M', BoardF C M' a F [gs] [] none → (∀ b o, M b = some o → M' b = some o ∧ b ∉ F) → Q M') :
    gZ_Board___init__ okC [.obj (.ref a), ringD gs] (updM M a (.ins C dx [])) fun r M2 => r = .non ∧ Q M2 :=
  ⟨a, dx, C, gs, rfl, updM_same, oc, ok, fun M' F b u nf => ⟨rfl, h F M' b fun x o hx => by
    have xa : x ≠ a := fun z => by rw [z, na] at hx; cases hx
    have hx' : updM M a (.ins C dx []) x = some o := by rw [updM_ne xa]; exact hx
    refine ⟨u x o (fun z => xa (List.mem_singleton.mp z)) hx', fun z => ?_⟩
    rcases nf x z with y | y
    · exact xa (List.mem_singleton.mp y)
    · rw [hx'] at y
      cases y⟩⟩
theorem Ed.ok_app {hs : List Int} {e : Ed} (h : e.ok hs) (o : RingOk hs) : RingOk (e.app hs) := by
  cases e with
  | put j x => exact put_ok o h.1 h.2
  | ins j x => exact ins_ok o h.1 h.2.1 h.2.2
  | rem j => exact del_ok o h.1 h.2
end RS
set_option Elab.async false
set_option linter.all false
set_option maxRecDepth 100000
/-! super().m(..) in a method. -/
namespace RS
open PySem PySem.Spec PyProof.Rows L2
/-! ### judgements about the code that runs -/
structure PEA (X : Cx) (body : List Stmt) (e : Expr) (t : TE) : Prop where
  run : ∀ (pins : List (Addr × Obj)) (s : Shared) (σ : L2.St) (H : Hp) (Q : VK), Inv X pins σ H s → t σ H Q → PySem.wpAt (model X.prog X.w) X.A (.func body X.env) (eval e X.env) (EP X pins σ Q) X.xe s
structure PSA (X : Cx) (body : List Stmt) (st : Stmt) (t : TS) : Prop where
  run : ∀ (pins : List (Addr × Obj)) (s : Shared) (σ : L2.St) (H : Hp) (D : Ends), Inv X pins σ H s → t D σ H → PySem.wpAt (model X.prog X.w) X.A (.func body X.env) (exec st X.env) (SP X pins D) X.xe s
structure PSsA (X : Cx) (body : List Stmt) (st : List Stmt) (t : TS) : Prop where
  run : ∀ (pins : List (Addr × Obj)) (s : Shared) (σ : L2.St) (H : Hp) (D : Ends), Inv X pins σ H s → t D σ H → PySem.wpAt (model X.prog X.w) X.A (.func body X.env) (execs st X.env) (SP X pins D) X.xe s
section
variable {X : Cx} {body : List Stmt}
theorem psA_of {st : Stmt} {t : TS} (h : PS X st t) : PSA X body st t := ⟨fun pins s σ H D I q => PySem.wpAt_of_wpAny (h.run pins s σ H D I q)⟩
theorem pssA_of {st : List Stmt} {t : TS} (h : PSs X st t) : PSsA X body st t := ⟨fun pins s σ H D I q => PySem.wpAt_of_wpAny (h.run pins s σ H D I q)⟩
theorem pssA_cons {st : Stmt} {r : List Stmt} {t u : TS} (h : PSA X body st t) (hr : PSsA X body r u) : PSsA X body (st :: r) (fun D σ H => t { D with nx := fun σ' H' => u D σ' H' } σ H) := ⟨fun pins s σ H D I q => by
  refine PySem.ks_wpAt_execs_cons (PySem.ks_wpAt_mono (h.run pins s σ H _ I q) (fun f s' hs => ?_) fun _ _ z => z)
  cases f with
  | next =>
    obtain ⟨σ', H', I', q'⟩ := hs
    exact hr.run pins s' σ' H' D I' q'
  | ret u => exact hs
  | brk => exact hs
  | cont => exact hs⟩
theorem psA_expr {e : Expr} {t : TE} {pos : Pos} (h : PEA X body e t) (hi : interactive X.env = false := by rfl) (hs : swapsWith e none pos.line X.env = pure false := by rfl) : PSA X body (.Expr e pos) (tDrop t) := ⟨fun pins s σ H D I q =>
  PySem.ks_wpAt_Expr_any (PySem.ks_wpAt_mono (h.run pins s σ H _ I q) (fun v s' ⟨x, H', I', _, q'⟩ => ⟨σ, H', I', q'⟩) fun _ _ z => z) hi hs⟩
theorem psA_ret {e : Expr} {t : TE} {pos : Pos} (h : PEA X body e t) : PSA X body (.Return (some e) pos) (tRet t) := ⟨fun pins s σ H D I q =>
  PySem.ks_wpAt_Return_some (PySem.ks_wpAt_mono (h.run pins s σ H _ I q) (fun v s' ⟨x, H', I', r, q'⟩ => ⟨x, σ, H', I', r, q'⟩) fun _ _ z => z)⟩
/-! ### super().m(..) -/
/-- what is known of the method of the class D, whose code is read: the cell of its class, its first parameter, its code object -/
structure SupK (X : Cx) (D : Addr) (a0 : Str) : Prop where
  f : ∃ (f : Addr) (oc : Value) (od : Option Addr) (fd : FuncData) (osl : Array (Option Value)) (ar : Arg), X.env.func = some f ∧ X.K.lookup f = some ⟨oc, od, .func fd, osl⟩ ∧ (fd.params.posonlyargs ++ fd.params.args).head? = some ar ∧ ar.arg = a0
  c : ∃ (cda : Addr) (ccl : Value) (cdd : Option Addr) (vs : Array Value) (ccs : Array (Option Value)) (file : Str) (tf : Tok), X.env.code = .ref cda ∧ X.K.lookup cda = some ⟨ccl, cdd, .fields vs, ccs⟩ ∧ vs[2]? = some (.str file tf) ∧ ((X.prog.main.file : Str) == file) = true
  cell : ∃ (cc : Addr) (cl : Value) (cld : Option Addr) (csl : Array (Option Value)), X.env.cells.lookup ("__class__" : Str) = some cc ∧ X.K.lookup cc = some ⟨cl, cld, .cell (some (.ref D)), csl⟩
  cls : ∃ cd, PySem.W.clsIn X.K D = some cd
  ks : X.env.kindOf "super" = some .globalImplicit
  kc : X.env.kindOf "__class__" = some .free
  mg : X.mg "super" = none
  top : (X.prog.main.scope.names.lookup ("super" : Str)).isSome = false
/-- instances of C, whose method m behind D is g -/
structure SupC (K : PySem.W.Frag) (C D : Addr) (m : Str) (g : Addr) : Prop where
  sub : PySem.W.mroIn K C (.ref D) = some true
  at_ : PySem.W.ks_superIn K C D m = some (some (.ref g))
  ty : PySem.W.typeIn K (.ref g) = some (.type "function")
  op : PySem.W.nsIn K PySem.cStatics "thirdparty.any" = some none
  fn : PySem.W.fnIn K g = true
theorem sup_obj {pins : List (Addr × Obj)} {σ : L2.St} {H : Hp} {s : Shared} {D C a dx g : Addr} {a0 m : Str} {i : Nat} {fs : List (Str × V)} {p0 p1 : Pos} {whole : Sem Value} {Q : Value → Shared → Prop} {E : Value → Shared → Prop}
    (I : Inv X pins σ H s) (k : SupK X D a0) (sc : SupC X.K C D m g) (hN : X.N[i]? = some a0) (hv : X.env.kindOf a0 = some .local) (hs : σ[i]? = some (some (.ref a))) (hm : H a = some (.ins C dx fs)) (hat : (m == ("__class__" : Str)) = false)
    (h : ∀ s', Inv X ((s.heap.objs.size, PySem.W.ks_superObj D a C) :: pins) σ H s' → Q (.ref s.heap.objs.size) s') :
    PySem.wpAt (model X.prog X.w) X.A (.func body X.env) (attributeBase (.Call (.Name "super" p0) [] [] p1) m X.env whole) Q E s := by
  obtain ⟨f, oc, od, fd, osl, ar, hfu, hf, hp, rfl⟩ := k.f
  obtain ⟨cda, ccl, cdd, vs, ccs, file, tf, hco, hcc, hvs, hfile⟩ := k.c
  obtain ⟨cc, cl, cld, csl, hce, hcell⟩ := k.cell
  obtain ⟨cdD, hD⟩ := k.cls
  have KX := I.kIn
  obtain ⟨oD, hD1, hD2⟩ : ∃ oD, s.heap.get? D = some oD ∧ oD.data = .cls cdD := by
    unfold PySem.W.clsIn at hD
    split at hD
    · rename_i c d cd' sl ho
      cases hD
      exact ⟨_, KX _ _ ho, rfl⟩
    · cases hD
  obtain ⟨mA, O, r, _, _, _⟩ := ins_get I.hok hm
  obtain ⟨hh, gg, dd, t, os⟩ := s
  refine PySem.ks_wpAt_super_base (env := X.env) k.ks k.kc hat hfu (KX _ _ hf) rfl hp hco (KX _ _ hcc) rfl hvs hfile k.top ?_
  obtain ⟨mb, h1, h2⟩ := I.mod.blt
  refine PySem.W.ks_loadName_global I.ok.kind k.ks (PySem.Calls.loadGlobal_builtin (by rw [I.ok.glob]; exact I.mod.glob.keeps I.bk) k.mg (by rw [I.ok.blt]; exact h1.keeps I.bk) ((h2 "super" (by decide)).trans (by decide +kernel)) ⟨rfl, ?_⟩)
  refine wpAny_loadName_free I.ok.kind k.kc hce ⟨_, KX _ _ hcell, rfl⟩ ?_
  obtain ⟨mL, hn, hl⟩ := I.loc
  obtain ⟨u, ru, lk⟩ := hl i _ _ hN hs (.inl hv)
  have eu : u = .ref a := ru
  subst eu
  have hmL : mL ar.arg = some (.ref a) := by
    rcases lk with ⟨_, q⟩ | ⟨q, _⟩
    · exact q
    · rw [hv] at q
      rcases q with q | q <;> cases q
  refine wpAny_loadName_local I.ok.kind hv hn hmL ?_
  refine PySem.ks_wpAny_isType_cls hD1 hD2 ⟨rfl, ?_⟩
  refine PySem.ks_wpAny_call_super hD1 hD2 O.obj rfl (fun c e => by cases e) (PySem.W.looks_mroIn KX sc.sub) (fun h' e kk => ?_)
  exact h _ (ClX.pin_new I kk (Nat.le_refl _) e (fun v z => nomatch z))
/-- super().m: a bound method, new -/
theorem sup_meth {pins : List (Addr × Obj)} {σ : L2.St} {H : Hp} {s : Shared} {D C a dx g so : Addr} {m : Str} {fs : List (Str × V)} {pl : Sem Bool} {Q : Value × List Value → Shared → Prop} {E : Value → Shared → Prop} {A : Around}
    (I : Inv X ((so, PySem.W.ks_superObj D a C) :: pins) σ H s) (sc : SupC X.K C D m g) (hm : H a = some (.ins C dx fs)) (hn : (m == ("__class__" : Str)) = false)
    (h : ∀ s', Inv X ((s.heap.objs.size, PySem.W.methodObj (.ref g) (.ref a)) :: (so, PySem.W.ks_superObj D a C) :: pins) σ H s' → Q (.ref s.heap.objs.size, []) s') :
    wpAny (model X.prog X.w) A (getMethod (.ref so) m pl) Q E s := by
  have KX := I.kIn
  have hso := ClX.pin_at I
  obtain ⟨mA, O, r, _, _, _⟩ := ins_get I.hok hm
  obtain ⟨cd, hc⟩ : ∃ cd, PySem.W.clsIn X.K C = some cd := by
    cases z : PySem.W.clsIn X.K C with
    | none =>
      have := sc.at_
      unfold PySem.W.ks_superIn at this
      rw [z] at this
      cases this
    | some cd => exact ⟨cd, rfl⟩
  have hal := sc.at_
  unfold PySem.W.ks_superIn at hal
  rw [hc] at hal
  have hal' : PySem.W.alongIn X.K m ((cd.mro.dropWhile (· != .ref D)).drop 1) = some (some (.ref g)) := hal
  obtain ⟨of, hof, hofc⟩ : ∃ of, s.heap.get? g = some of ∧ of.cls = .type "function" := by
    have ht' : (X.K.lookup g).map (·.cls) = some (.type "function") := sc.ty
    cases z : X.K.lookup g with
    | none => rw [z] at ht'; cases ht'
    | some of => rw [z] at ht'; exact ⟨of, KX _ _ z, Option.some.inj ht'⟩
  have ne : a ≠ C := by
    rintro rfl
    unfold PySem.W.clsIn at hc
    split at hc
    · rename_i c d cd' sl ho
      have e := KX _ _ ho
      rw [O.obj] at e
      cases e
    · cases hc
  obtain ⟨hh, gg, dd, t, os⟩ := s
  refine PySem.ks_wpAny_getMethod_super hso (PySem.W.looks_opaque KX sc.op) (l₀ := cd.mro) ?_ rfl KX hal' hof hofc ne hn ?_
  · exact fun A Q E s k q => wpAny_bind ((PySem.W.looks_clsIn KX hc) A _ E s k (wpAny_pure q))
  · exact h _ (ClX.pin_new (o := PySem.W.methodObj (.ref g) (.ref a)) I (fun b o e => Heap.get?_push_of_some _ e) (Nat.le_refl _) (Heap.get?_push_at rfl rfl) (fun v z => nomatch z))
/-- super().m(..): i, the slot of the first parameter -/
def tSup (okC : Addr → Prop) (sp : Addr → Sp) (E : L2.St → XK) (i : Nat) (t : TA) : TE := fun σ H Q => ∃ a C dx fs, σ[i]? = some (some (.ref a)) ∧ H a = some (.ins C dx fs) ∧ okC C ∧ t σ H fun vs H1 => sp C (.ref a :: vs) H1 Q (E σ)
theorem pe_super {CX : CXT} {k : Nat} {D : Addr} {a0 m : Str} {i : Nat} {okC : Addr → Prop} {sp : Addr → Sp} {E : L2.St → XK} {e : Expr} {es : List Expr} {p0 p1 apos pos : Pos} {t : TA} {f : Addr} {fd : FuncData} {ps : List Str}
    (hgd : X.A.guards = some []) (sk : SupK X D a0) (hC : ∀ C, okC C → SupC X.K C D m f) (F : ∀ C, okC C → FnG X.prog X.w X.K X.mg X.base CX k f fd ps (sp C)) (hb : Binds X.K fd ps []) (hx : ErrOk X CX E) (hr : Room k X.A)
    (hN : X.N[i]? = some a0) (hv : X.env.kindOf a0 = some .local) (hat : (m == ("__class__" : Str)) = false) (ha : PA X (e :: es) t)
    (hst : starEach (e :: es) X.env = (false, eval e X.env) :: starEach es X.env := by rfl) (hpl : (backTo pos (starEach es X.env)).any (·.1) = false := by rfl)
    {pl : Sem Bool} (ht : eval (.Call (.Attribute (.Call (.Name "super" p0) [] [] p1) m apos) (e :: es) [] pos) X.env = (do
      let ov ← attributeBase (.Call (.Name "super" p0) [] [] p1) m X.env (eval (.Call (.Name "super" p0) [] [] p1) X.env)
      standAt apos.atName
      let (f, first) ← holding [ov] (getMethod ov m pl)
      callWith pos f first (backTo pos (starEach (e :: es) X.env)) []) := by rfl) :
    PEA X body (.Call (.Attribute (.Call (.Name "super" p0) [] [] p1) m apos) (e :: es) [] pos) (tSup okC sp E i t) := by
  refine ⟨fun pins s σ H Q I h => ?_⟩
  obtain ⟨a, C, dx, fs, e1, e2, oc, q⟩ := h
  have sc := hC C oc
  refine PySem.ks_wpAt_MethodCall (pl := pl) (sup_obj I sk sc hN hv e1 e2 hat fun s1 I1 => ?_) ht
  refine sup_meth I1 sc e2 hat fun s2 I2 => ?_
  have hq0 := ClX.base_none (X := X) I1 (Nat.le_refl _)
  have hL := (I2.pin (s1.heap.objs.size, PySem.W.methodObj (.ref f) (.ref a)) (List.mem_append_right _ List.mem_cons_self)).2.2.1
  have hq := ClX.pin_at I2
  refine PySem.W.callWith_M (K := X.K) (h₀ := X.base) (first := []) I2.ok.mod.kin (news_at hL hq0 hq) List.mem_cons_self sc.fn (thn (ha.run pos _ s2 σ H _ I2 q) fun us s3 ⟨vs, H3, I3, r, q3⟩ => ⟨⟨ClX.pin_at I3, I3.kIn⟩, ?_⟩) hst hpl
  have z : wpAny (model X.prog X.w) X.A (call (.ref s1.heap.objs.size) ([] ++ us)) (EP X ((s1.heap.objs.size, PySem.W.methodObj (.ref f) (.ref a)) :: (s.heap.objs.size, PySem.W.ks_superObj D a C) :: pins) σ Q) X.xe s3 := by
    refine wpAny_call (PySem.W.method_call (ClX.pin_at I3) ?_)
    have hl : (Value.ref a :: us).length = ps.length := by
      have := (F C oc).len _ _ _ _ q3
      rw [← this, List.length_cons, List.length_cons, r.length]
    have bd := hb s3 (.ref a :: us) I3.kIn (by rw [List.append_nil]; exact hl)
    rw [List.append_nil] at bd
    refine codeAny_mono ((F C oc).run X.A X.stack s3 H3 ⟨.ref a :: us, []⟩ (.ref a :: us) (.ref a :: vs) Q (E σ) hgd hr I3.env0 bd (.cons rfl r) q3) fun r s' hq => ?_
    cases r with
    | error z => exact hx _ σ H3 s3 z s' I3 hq
    | ok fl =>
      cases fl with
      | ret u => exact I3.after hq
      | next => exact False.elim hq
      | brk => exact False.elim hq
      | cont => exact False.elim hq
  exact thn z fun _ _ y => ClX.unpinE (ClX.unpinE y)
end
/-! ### the def of such a method -/
structure FunS (K : PySem.W.Frag) (x qual : Str) (st : Stmt) (f : Addr) (fd : FuncData) (cc cda : Addr) : Prop where
  ex : ∃ (oc : Value) (od : Option Addr) (dV kV doc pm : Value) (an : Option Addr) (ct : Value) (osl : Array (Option Value)), fd = PySem.W.fnX x qual (defArgs st) (defBody st) (defScope st) [("__class__", cc)] dV kV doc pm an (.ref cda) ct ∧ K.lookup f = some ⟨oc, od, .func fd, osl⟩ ∧ PySem.W.codeIn K (.ref cda) qual = true
abbrev nfS (x qual : Str) (st : Stmt) (cc cda : Addr) : NdefX.NF := ⟨x, qual, defArgs st, defBody st, defScope st, [("__class__", cc)], cda⟩
theorem okGXS {P : Program} {w : World} {K : PySem.W.Frag} {mg : Str → Option Value} {base : Heap} {x qual : Str} {st : Stmt} {f cc cda D : Addr} {fd : FuncData} {N ps : List Str} {k : Nat} {sp : Sp} {cl : Value} {cld : Option Addr} {csl : Array (Option Value)} (F : FunS K x qual st f fd cc cda)
    (S : NdefX.NScope N ps ["__class__"] (defScope st)) (len : ∀ vs H Q E, sp vs H Q E → vs.length = ps.length) (hcell : K.lookup cc = some ⟨cl, cld, .cell (some (.ref D)), csl⟩)
    (walk : ∀ (A : Around) (outer : List Env) (s : Shared) (H : Hp) (vs : List V) (Q : VK) (E : XK), A.guards = some [] → Room k (A.deeper (NdefX.envF (nfS x qual st cc cda) f s.heap.objs.size)) → sp vs H Q E →
      ∃ t, PSsA (NdefX.ncx (L2.CX P w) P w K mg base N (nfS x qual st cc cda) f A outer s H E) (defBody st) (defBody st) t ∧ t { nx := fun _ H' => Q .non H', rt := Q } (NdefX.startF N vs [some (.ref D)]) H) :
    FnG P w K mg base (L2.CX P w) (k + 1) f fd ps sp := by
  obtain ⟨oc, od, dV, kV, doc, pm, an, ct, osl, rfl, lk, hcd⟩ := F.ex
  refine ⟨len, ?_⟩
  intro A outer s H args us vs Q E hgd room env bnd rel prom
  have hlen := len _ _ _ _ prom
  have inK : K.In s.heap := env.mod.kin.keeps fun b o q => (env.bs b o q).1
  have noLim : s.heap.NoLimit := env.mod.nolimit.keeps fun b o q => (env.bs b o q).1
  have C : NdefX.CellsAt (nfS x qual st cc cda).cl ["__class__"] [some (.ref D)] s.heap H := by
    have one : ∀ (y : Str) (c : Addr), ([("__class__", cc)] : List (Str × Addr)).lookup y = some c → y = "__class__" ∧ c = cc := fun y c h => by
      rw [List.lookup_cons] at h
      split at h
      · rename_i e
        exact ⟨by simpa using e, (Option.some.inj h).symm⟩
      · cases h
    have b0 : base.get? cc = some _ := env.mod.kin _ _ hcell
    refine ⟨rfl, fun y c h => ?_, fun a b c h1 h2 => ?_, fun i y h => ?_⟩
    · obtain ⟨rfl, rfl⟩ := one y c h
      exact ⟨(env.bs _ _ b0).2, _, _, inK _ _ hcell, rfl⟩
    · rw [(one a c h1).1, (one b c h2).1]
    · cases i with
      | zero =>
        have : y = "__class__" := (Option.some.inj h).symm
        subst this
        refine ⟨cc, rfl, fun v hv => ?_⟩
        have : v = .ref D := (Option.some.inj (Option.some.inj hv)).symm
        subst this
        exact ⟨.ref D, rfl, _, inK _ _ hcell, rfl⟩
      | succ i => cases h
  refine codeAny_call_function room.depth (inK _ _ lk) rfl S.co S.gen rfl (PySem.W.codeRec_of inK hcd) (bnd _ _ _ _ ?_)
  refine wpAny_newFunctionEnv S.nocell (fun ⟨n, _⟩ hy => S.par n (List.of_mem_zip hy).1) (fun h₁ hns hsb => ⟨noLim.fresh _ hsb, ?_⟩) S.kind
  show codeAny _ _ (.func (defBody st) (NdefX.envF (nfS x qual st cc cda) f s.heap.objs.size)) _ _
  refine PySem.ks_codeAny_funcAt ?_
  have kp : ∀ b o, s.heap.get? b = some o → h₁.get? b = some o := fun b o e => hsb.extBut b o (Nat.ne_of_lt (Heap.lt_size e)) (Heap.get?_push_of_some _ e)
  obtain ⟨t, ht, hq⟩ := walk A outer s H vs Q E hgd (room.deeper _) prom
  have I := NdefX.inv_startN (CX := L2.CX P w) (E := E) (tk := s.toks + (ps.zip us).length) (f := f) S room.hd env hlen rel C hns kp
  refine PySem.ks_wpAt_mono (ht.run [] _ (NdefX.startF N vs [some (.ref D)]) H _ I hq) (fun fl s' hs => ?_) (fun _ _ z => z)
  cases fl with
  | ret u =>
    obtain ⟨v, σ', H', J, rv, q⟩ := hs
    exact ⟨v, H', J.os, J.bare, J.base, J.hok, rv, q⟩
  | next =>
    obtain ⟨σ', H', J, q⟩ := hs
    exact ⟨V.non, H', J.os, J.bare, J.base, J.hok, rfl, q⟩
  | brk => exact hs.elim fun _ h => h.elim fun _ h => h.2.elim
  | cont => exact hs.elim fun _ h => h.elim fun _ h => h.2.elim
end RS
set_option Elab.async false
set_option linter.all false
set_option maxRecDepth 100000
/-! super().m(..), by data; methods that say so. -/
namespace RS
open PySem PySem.Spec PyProof.Rows L2
section
variable {X : Cx} {Vx : VX} {body : List Stmt}
theorem PEA.imp {e : Expr} {t t' : TE} (h : PEA X body e t) (m : ∀ σ H Q, t' σ H Q → t σ H Q) : PEA X body e t' := ⟨fun pins s σ H Q I q => h.run pins s σ H Q I (m σ H Q q)⟩
theorem PSA.imp {st : Stmt} {t t' : TS} (h : PSA X body st t) (m : ∀ E σ H, t' E σ H → t E σ H) : PSA X body st t' := ⟨fun pins s σ H D I q => h.run pins s σ H D I (m D σ H q)⟩
theorem PSsA.imp {st : List Stmt} {t t' : TS} (h : PSsA X body st t) (m : ∀ E σ H, t' E σ H → t E σ H) : PSsA X body st t' := ⟨fun pins s σ H D I q => h.run pins s σ H D I (m D σ H q)⟩
def DEXA (X : Cx) (Vx : VX) (body : List Stmt) (e : Expr) (w : DWX) : Prop := PEA X body e (liftX X.K Vx w)
def DStA (X : Cx) (Vx : VX) (body : List Stmt) (st : Stmt) (w : DS) : Prop := PSA X body st (liftS X.K Vx w)
def DSsA (X : Cx) (Vx : VX) (body : List Stmt) (st : List Stmt) (w : DS) : Prop := PSsA X body st (liftS X.K Vx w)
theorem dstA_of {st : Stmt} {w : DS} (h : DSt X Vx st w) : DStA X Vx body st w := psA_of h
theorem dssA_of {st : List Stmt} {w : DS} (h : DSs X Vx st w) : DSsA X Vx body st w := pssA_of h
theorem dssA_cons {st : Stmt} {rest : List Stmt} {w u : DS} (h : DStA X Vx body st w) (h2 : DSsA X Vx body rest u) : DSsA X Vx body (st :: rest) (wSeq w u) := PSsA.imp (pssA_cons h h2) fun E σ H q => by
  obtain ⟨Γ, W, F, rfl, c, w, k⟩ := q
  exact ⟨Γ, W, _, rfl, c, w, ⟨fun Γ' W' σ' p f c' => ⟨Γ', W', F, rfl, c', p, k.fr f⟩, k.rt, k.bk, k.ct, k.ex⟩⟩
theorem dssA_one {st : Stmt} {w : DS} (h : DStA X Vx body st w) : DSsA X Vx body [st] w := ⟨fun pins s σ H D I q => by
  refine PySem.ks_wpAt_execs_cons (PySem.ks_wpAt_mono (h.run pins s σ H _ I q) (fun f s' hs => ?_) fun _ _ z => z)
  cases f with
  | next =>
    obtain ⟨σ', H', I', q'⟩ := hs
    exact PySem.wpAt_of_wpAny (pss_nil.run pins s' σ' H' D I' q')
  | ret u => exact hs
  | brk => exact hs
  | cont => exact hs⟩
theorem dsA_retX {e : Expr} {pos : Pos} {we : DWX} (h : DEXA X Vx body e we) : DStA X Vx body (.Return (some e) pos) (wRetX we) := PSA.imp (psA_ret h) fun E σ H q => by
  obtain ⟨Γ, W, F, rfl, c, w, k⟩ := q
  exact ⟨Γ, W, _, _, rfl, c, w, k.rt, fun n fs W' d px f2 k2 x y => k.ex Γ W' σ n fs d px f2 (c.fr f2 k2) x y⟩
def wSupX (okC : Addr → Prop) (g : Addr → DSpX) (i : Nat) (wa : DAW) : DWX := fun Γ M P PX => ∃ a C fs, Γ[i]? = some (some (.obj (.ref a))) ∧ InsM okC M (.obj (.ref a)) C fs ∧ wa Γ M fun ds M1 => g C (.obj (.ref a) :: ds) M1 P PX
theorem dexA_super {ct : Str → Value} {Wv : WX} {okC : Addr → Prop} {g : Addr → DSpX} {i : Nat} {wa : DAW} {e : Expr} (hV : ∀ n d σ H, Vx n d σ H → Wv (ct n) d σ H)
    (h : PEA X body e (tSup okC (fun C => spX X.K ct (g C)) (fun σ cls d H' => Wv cls d σ H') i (liftA X.K wa))) : DEXA X Vx body e (wSupX okC g i wa) := PEA.imp h fun σ H Q q => by
  obtain ⟨Γ, W, P, PX, rfl, c, w, k, kx⟩ := q
  obtain ⟨a, C, fs, hg, ⟨a', dx, e1, mm, oc⟩, w⟩ := w
  cases e1
  obtain ⟨v, hv, rv⟩ := c.env i _ hg
  cases rv
  obtain ⟨nN, gs, eH, rf⟩ := c.ok.m a _ mm
  refine ⟨a, C, dx, gs, hv, eH, oc, Γ, W, _, rfl, c, w, fun ds W2 vs w2 f2 k2 r2 => ?_⟩
  exact ⟨W2, _, P, PX, rfl, k2, .cons (.obj _) r2, w2, k.fr f2, fun n fs W' d px f4 k4 x y => hV n d σ _ (kx n fs W' d px (f2.trans f4) k4 x (y.fr f2))⟩
/-! a method that raises nothing -/
def DEA (X : Cx) (body : List Stmt) (e : Expr) (w : DW) : Prop := PEA X body e (lift X.K w)
theorem dsA_expr {e : Expr} {pos : Pos} {we : DW} (h : DEA X body e we) (hi : interactive X.env = false := by rfl) (hs : swapsWith e none pos.line X.env = pure false := by rfl) : DStA X Vx body (.Expr e pos) (wDrop we) := PSA.imp (psA_expr h hi hs) fun E σ H q => by
  obtain ⟨Γ, W, F, rfl, c, w, k⟩ := q
  exact ⟨Γ, W, _, rfl, c, w, fun d W1 v w1 f1 k1 r1 => k.nx Γ W1 σ w1 f1 (c.fr f1 k1)⟩
def wSup (okC : Addr → Prop) (g : Addr → DSp) (i : Nat) (wa : DAW) : DW := fun Γ M P => ∃ a C fs, Γ[i]? = some (some (.obj (.ref a))) ∧ InsM okC M (.obj (.ref a)) C fs ∧ wa Γ M fun ds M1 => g C (.obj (.ref a) :: ds) M1 P
theorem deA_super {okC : Addr → Prop} {g : Addr → DSp} {i : Nat} {wa : DAW} {e : Expr} {E : L2.St → XK} (h : PEA X body e (tSup okC (fun C => spD X.K (g C)) E i (liftA X.K wa))) : DEA X body e (wSup okC g i wa) := PEA.imp h fun σ H Q q => by
  obtain ⟨Γ, W, P, rfl, c, w, k⟩ := q
  obtain ⟨a, C, fs, hg, ⟨a', dx, e1, mm, oc⟩, w⟩ := w
  cases e1
  obtain ⟨v, hv, rv⟩ := c.env i _ hg
  cases rv
  obtain ⟨nN, gs, eH, rf⟩ := c.ok.m a _ mm
  refine ⟨a, C, dx, gs, hv, eH, oc, Γ, W, _, rfl, c, w, fun ds W2 vs w2 f2 k2 r2 => ?_⟩
  exact ⟨W2, _, P, rfl, k2, .cons (.obj _) r2, w2, k.fr f2⟩
end
theorem okDXS {P : Program} {w : World} {K : PySem.W.Frag} {mg : Str → Option Value} {base : Heap} {x qual : Str} {st : Stmt} {f cc cda Dc : Addr} {fd : FuncData} {N ps : List Str} {k : Nat} {g : DSpX} {ct : Str → Value} {cl : Value} {cld : Option Addr} {csl : Array (Option Value)} (F : FunS K x qual st f fd cc cda)
    (S : NdefX.NScope N ps ["__class__"] (defScope st)) (len : ∀ ds M P PX, g ds M P PX → ds.length = ps.length) (hcell : K.lookup cc = some ⟨cl, cld, .cell (some (.ref Dc)), csl⟩)
    (walk : ∀ (A : Around) (outer : List Env) (s : Shared) (H : Hp) (E : XK), A.guards = some [] → Room k (A.deeper (NdefX.envF (nfS x qual st cc cda) f s.heap.objs.size)) →
      ∃ t, DSsA (NdefX.ncx (L2.CX P w) P w K mg base N (nfS x qual st cc cda) f A outer s H E) (fun n d _ H' => E (ct n) d H') (defBody st) (defBody st) t ∧ ∀ ds M P PX, g ds M P PX → t (endsX P PX) (ds.map some ++ (some (.obj (.ref Dc)) :: List.replicate (N.length - ds.length - 1) none)) M) :
    FnG P w K mg base (L2.CX P w) (k + 1) f fd ps (spX K ct g) := by
  refine okGXS F S (fun vs H Q E h => ?_) hcell (fun A outer s H vs Q E hgd hr h => ?_)
  · obtain ⟨W, ds, P, PX, rfl, c, r, q, k⟩ := h
    rw [r.length, len _ _ _ _ q]
  · obtain ⟨t, ht, hq⟩ := walk A outer s H E hgd hr
    obtain ⟨W, ds, P, PX, rfl, c, r, q, kk, kx⟩ := h
    refine ⟨_, ht, ds.map some ++ (some (.obj (.ref Dc)) :: List.replicate (N.length - ds.length - 1) none), W, endsX P PX, rfl, ⟨c, ?_, fun i d hd => ?_⟩, hq ds W.M P PX q, ⟨fun Γ' W' σ' p f c' => kk .non W' .non p f c'.ok .non, kk, fun _ _ _ p => p.elim, fun _ _ _ p => p.elim, fun Γ' W' σ' n fs d p f c' x y => kx n fs W' d p f c'.ok x y⟩⟩
    · unfold NdefX.startF
      simp [r.length]
    · unfold NdefX.startF
      by_cases hi : i < ds.length
      · rw [List.getElem?_append_left (by simpa using hi), List.getElem?_map] at hd
        cases e : ds[i]? with
        | none => rw [e] at hd; cases hd
        | some d' =>
          rw [e] at hd
          cases hd
          obtain ⟨v, h1, h2⟩ := r.get e
          refine ⟨v, ?_, h2⟩
          rw [List.getElem?_append_left (by simpa [r.length] using hi), List.getElem?_map, h1]
          rfl
      · rw [List.getElem?_append_right (by simpa using Nat.le_of_not_lt hi)] at hd
        rw [List.getElem?_append_right (by simpa [r.length] using Nat.le_of_not_lt hi)]
        simp only [List.length_map] at hd ⊢
        rw [r.length]
        cases z : i - ds.length with
        | zero =>
          rw [z] at hd
          have hd' : d = .obj (.ref Dc) := (Option.some.inj (Option.some.inj hd)).symm
          subst hd'
          exact ⟨.ref Dc, rfl, .obj _⟩
        | succ j =>
          rw [z] at hd
          have hd' : (List.replicate (N.length - ds.length - 1) (none : Option D))[j]? = some (some d) := hd
          rw [List.getElem?_replicate] at hd'
          split at hd' <;> cases hd'
end RS
set_option Elab.async false
set_option linter.all false
set_option maxRecDepth 100000
/-! A method that says super(), as the top has written it. -/
namespace RS
open PySem PySem.Spec PyProof.Rows L2
structure MetSup (K : PySem.W.Frag) (C : Addr) (x q : Str) (st : Stmt) (f : Addr) (fd : FuncData) (file : Str) : Prop where
  ex : ∃ (cc cda : Addr) (oc : Value) (od : Option Addr) (kV dc pm : Value) (an : Option Addr) (ct : Value) (sl : Array (Option Value)) (cl : Value) (cld : Option Addr) (csl : Array (Option Value)) (ccl : Value) (cdd : Option Addr) (vs : Array Value) (ccs : Array (Option Value)) (tf : Tok),
    fd = PySem.W.fnX x q (defArgs st) (defBody st) (defScope st) [("__class__", cc)] .none kV dc pm an (.ref cda) ct ∧ K.lookup f = some ⟨oc, od, .func fd, sl⟩ ∧ PySem.W.codeIn K (.ref cda) q = true ∧
    K.lookup cc = some ⟨cl, cld, .cell (some (.ref C)), csl⟩ ∧ K.lookup cda = some ⟨ccl, cdd, .fields vs, ccs⟩ ∧ vs[2]? = some (.str file tf)
  kp : PySem.W.keepIn K (.ref f) = true
structure MetAtS (K : PySem.W.Frag) (C : Addr) (x q : Str) (st : Stmt) (file : Str) : Prop where
  ex : ∃ (f cc cda : Addr) (oc : Value) (od : Option Addr) (kV dc pm : Value) (an : Option Addr) (ct : Value) (sl : Array (Option Value)) (cl : Value) (cld : Option Addr) (csl : Array (Option Value)) (ccl : Value) (cdd : Option Addr) (vs : Array Value) (ccs : Array (Option Value)) (tf : Tok),
    PySem.W.findIn K (.ref C) x = some (some (.ref f)) ∧ K.lookup f = some ⟨oc, od, .func (PySem.W.fnX x q (defArgs st) (defBody st) (defScope st) [("__class__", cc)] .none kV dc pm an (.ref cda) ct), sl⟩ ∧ PySem.W.codeIn K (.ref cda) q = true ∧
    PySem.W.keepIn K (.ref f) = true ∧ PySem.W.isFn K (.ref f) = true ∧ K.lookup cc = some ⟨cl, cld, .cell (some (.ref C)), csl⟩ ∧ K.lookup cda = some ⟨ccl, cdd, .fields vs, ccs⟩ ∧ vs[2]? = some (.str file tf)
theorem met_mkS {K : PySem.W.Frag} {C : Addr} {x q : Str} {st : Stmt} {file : Str} {f cc cda : Addr} {oc : Value} {od : Option Addr} {kV dc pm : Value} {an : Option Addr} {ct : Value} {sl : Array (Option Value)} {cl : Value} {cld : Option Addr} {csl : Array (Option Value)} {ccl : Value} {cdd : Option Addr} {vs : Array Value} {ccs : Array (Option Value)} {tf : Tok}
    (h1 : PySem.W.findIn K (.ref C) x = some (some (.ref f))) (h2 : K.lookup f = some ⟨oc, od, .func (PySem.W.fnX x q (defArgs st) (defBody st) (defScope st) [("__class__", cc)] .none kV dc pm an (.ref cda) ct), sl⟩) (h3 : PySem.W.codeIn K (.ref cda) q = true)
    (h4 : PySem.W.keepIn K (.ref f) = true) (h5 : PySem.W.isFn K (.ref f) = true) (h6 : K.lookup cc = some ⟨cl, cld, .cell (some (.ref C)), csl⟩) (h7 : K.lookup cda = some ⟨ccl, cdd, .fields vs, ccs⟩) (h8 : vs[2]? = some (.str file tf)) : MetAtS K C x q st file :=
  ⟨f, cc, cda, oc, od, kV, dc, pm, an, ct, sl, cl, cld, csl, ccl, cdd, vs, ccs, tf, h1, h2, h3, h4, h5, h6, h7, h8⟩
theorem MetAtS.get {K : PySem.W.Frag} {C : Addr} {x q : Str} {st : Stmt} {file : Str} (d : MetAtS K C x q st file) : ∃ (f : Addr) (fd : FuncData), MetSup K C x q st f fd file ∧ Meth K C x f := by
  obtain ⟨f, cc, cda, oc, od, kV, dc, pm, an, ct, sl, cl, cld, csl, ccl, cdd, vs, ccs, tf, h1, h2, h3, h4, h5, h6, h7, h8⟩ := d.ex
  exact ⟨f, _, ⟨⟨cc, cda, oc, od, kV, dc, pm, an, ct, sl, cl, cld, csl, ccl, cdd, vs, ccs, tf, rfl, h2, h3, h6, h7, h8⟩, h4⟩, ⟨h1, h5, h4⟩⟩
theorem MetSup.binds {K : PySem.W.Frag} {C : Addr} {x q : Str} {st : Stmt} {f : Addr} {fd : FuncData} {file : Str} {ps : List Str} (F : MetSup K C x q st f fd file)
    (h : ∀ (cc cda : Addr) (kV doc pm : Value) (an : Option Addr) (ct : Value) (us : List Value), us.length = ps.length → bindArgs (PySem.W.fnX x q (defArgs st) (defBody st) (defScope st) [("__class__", cc)] .none kV doc pm an (.ref cda) ct) ⟨us, []⟩ = pure (ps.zip us)) : Binds K fd ps [] := by
  obtain ⟨cc, cda, oc, od, kV, dc, pm, an, ct, sl, cl, cld, csl, ccl, cdd, vs, ccs, tf, rfl, _⟩ := F.ex
  exact .all (h cc cda kV dc pm an ct)
/-- the program's file, and that its top has no name super -/
structure SupP (P : Program) (file : Str) : Prop where
  f : ((P.main.file : Str) == file) = true
  t : (P.main.scope.names.lookup ("super" : Str)).isSome = false
theorem okDXM {P : Program} {w : World} {K : PySem.W.Frag} {mg : Str → Option Value} {base : Heap} {C : Addr} {x qual a0 file : Str} {st : Stmt} {f : Addr} {fd : FuncData} {N ps : List Str} {k : Nat} {g : DSpX} {ct : Str → Value} (F : MetSup K C x qual st f fd file) (hP : SupP P file)
    (S : NdefX.NScope N ps ["__class__"] (defScope st)) (len : ∀ ds M P PX, g ds M P PX → ds.length = ps.length) (hc : ∃ cd, PySem.W.clsIn K C = some cd) (hm : mg "super" = none)
    (hks : (defScope st).names.lookup ("super" : Str) = some .globalImplicit) (hkc : (defScope st).names.lookup ("__class__" : Str) = some .free) (ha : ((defArgs st).posonlyargs ++ (defArgs st).args).head?.map (·.arg) = some a0)
    (walk : ∀ (cc cda : Addr) (A : Around) (outer : List Env) (s : Shared) (H : Hp) (E : XK), A.guards = some [] → Room k (A.deeper (NdefX.envF (nfS x qual st cc cda) f s.heap.objs.size)) → SupK (NdefX.ncx (L2.CX P w) P w K mg base N (nfS x qual st cc cda) f A outer s H E) C a0 →
      ∃ t, DSsA (NdefX.ncx (L2.CX P w) P w K mg base N (nfS x qual st cc cda) f A outer s H E) (fun n d _ H' => E (ct n) d H') (defBody st) (defBody st) t ∧ ∀ ds M P PX, g ds M P PX → t (endsX P PX) (ds.map some ++ (some (.obj (.ref C)) :: List.replicate (N.length - ds.length - 1) none)) M) :
    FnG P w K mg base (L2.CX P w) (k + 1) f fd ps (spX K ct g) := by
  obtain ⟨cc, cda, oc, od, kV, dc, pm, an, ctv, sl, cl, cld, csl, ccl, cdd, vs, ccs, tf, efd, h2, h3, h6, h7, h8⟩ := F.ex
  refine okDXS (cc := cc) (cda := cda) ⟨⟨oc, od, .none, kV, dc, pm, an, ctv, sl, efd, h2, h3⟩⟩ S len h6 fun A outer s H E hgd hr => walk cc cda A outer s H E hgd hr ?_
  obtain ⟨ar, har, hax⟩ := Option.map_eq_some_iff.mp ha
  exact ⟨⟨f, oc, od, fd, sl, ar, rfl, h2, by rw [efd]; exact har, hax⟩, ⟨cda, ccl, cdd, vs, ccs, file, tf, rfl, h7, h8, hP.f⟩, ⟨cc, cl, cld, csl, rfl, h6⟩, hc, hks, hkc, hm, hP.t⟩
end RS
set_option Elab.async false
set_option linter.all false
set_option maxRecDepth 100000
/-! super() in a method: what is asked of the class, together. -/
namespace RS
open PySem PySem.Spec PyProof.Rows L2
theorem supC_mk {K : PySem.W.Frag} {C D B : Addr} {m x q : Str} {st : Stmt} {f : Addr} {fd : FuncData} (h1 : PySem.W.mroIn K C (.ref D) = some true) (h2 : PySem.W.ks_superIn K C D m = PySem.W.findIn K (.ref B) m) (M : Meth K B m f) (F : Fun K x q st f fd)
    (op : PySem.W.nsIn K PySem.cStatics "thirdparty.any" = some none) : SupC K C D m f := by
  refine ⟨h1, h2.trans M.at_, ?_, op, ?_⟩
  · have := M.fn
    unfold PySem.W.isFn at this
    exact eq_of_beq this
  · obtain ⟨oc, od, kV, doc, pm, an, cdv, ct, osl, rfl, lk, _⟩ := F.ex
    unfold PySem.W.fnIn
    rw [lk]
end RS
set_option Elab.async false
set_option linter.all false
set_option maxRecDepth 100000
/-! isinstance of an instance of the program's classes. -/
namespace RS
open PySem PySem.Spec PyProof.Rows L2
structure IsC (K : PySem.W.Frag) (C : Addr) : Prop where
  cl : Cls K C
  ha : PySem.W.findIn K (.ref C) "__class__" = some (some (.builtin "object.__class__"))
  hn : PySem.W.specialIn K (.builtin "object.__class__") "__get__" = some (some (.builtin "getset_descriptor.__get__"))
  ht : PySem.W.takesIn K (.builtin "object.__class__") = some true
  hm : PySem.W.mroIn K C (.type "object") = some true
def isiI (okC : Addr → Prop) (b : Bool) (c : V) : GN := fun ds M P => match ds with
  | [d, .obj c'] => c' = c ∧ ((∃ C fs, InsM okC M d C fs ∧ P (.bl b) M) ∨ isinstanceD [d, .obj c] M P)
  | _ => False
theorem cd_isiI {X : Cx} {okC : Addr → Prop} {b : Bool} {c : V} {u : Value} (hcl : ClsV c u) (hC : ∀ C, okC C → IsC X.K C ∧ PySem.W.kitOne X.K (.ref C) u = some b) : CallD X (.builtin "isinstance") (isiI okC b c) := by
  intro pins s σ H xs us Q I r h
  obtain ⟨W, ds, P, rfl, ok, rs, g, k⟩ := h
  unfold isiI at g
  split at g
  · rename_i d c'
    obtain ⟨rfl, g⟩ := g
    rcases g with ⟨C, fs, ⟨a, dx, rfl, mm, oc⟩, p⟩ | g
    · obtain ⟨v0, v1, rfl, q0, q1⟩ := rvs2 rs
      cases q0
      cases q1
      obtain ⟨nN, gs, eH, rf⟩ := ok.m a _ mm
      obtain ⟨ic, kt⟩ := hC C oc
      exact call_isi pins s σ W.H _ us Q I r ⟨_, _, _, _, _, rfl, hcl, .base (.ins eH ic.cl ic.ha ic.hn ic.ht ic.hm), kt, k.now ok (.bl _) p⟩
    · exact cd_isinstance pins s σ W.H xs us Q I r ⟨W, _, P, rfl, ok, rs, g, k⟩
  · exact g.elim
theorem de_clsC {X : Cx} {e : Expr} {C : Addr} (h : PE X e (tC (.ref C))) : DE X e (wC (.obj (.ref C))) := PE.imp h fun σ H Q q => by
  obtain ⟨Γ, W, P, rfl, c, w, k⟩ := q
  exact k _ W _ w (Fr.refl W) c.ok (.obj _)
end RS
set_option Elab.async false
set_option linter.all false
set_option maxRecDepth 100000
/-! == of instances by the text's own __eq__, where one class may come behind the other. -/
namespace RS
open PySem PySem.Spec PyProof.Rows L2
section
variable {prog : Program} {w : World} {A : Around} {E : Value → Shared → Prop} {s : Shared} {K : PySem.W.Frag} {x y C C2 f L : Addr} {h₀ : Heap} {m : Str → Option Value} {ox oy : Obj} {od od2 : Option Obj}
theorem cmp_two {Q : Value → Shared → Prop} (hu : A.units < cLine) (F : PyProof.Rows.Fr h₀ L s.heap m) (X0 : K.In h₀) (I : PySem.W.InstAt s.heap x ox C od) (I2 : PySem.W.InstAt s.heap y oy C2 od2) (hsub : C = C2 ∨ ∃ b, PySem.W.subIn K (.ref C2) (.ref C) = some b)
    (hs : PySem.W.findIn K (.ref C) "__eq__" = some (some (.ref f))) (hs2 : PySem.W.findIn K (.ref C2) "__eq__" = some (some (.ref f))) (hf : PySem.W.isFn K (.ref f) = true)
    (h1 : wpAny (model prog w) A (call (.ref f) [.ref x, .ref y]) (PySem.W.CmpBack Q) E s) (h2 : wpAny (model prog w) A (call (.ref f) [.ref y, .ref x]) (PySem.W.CmpBack Q) E s) :
    wpAny (model prog w) A (richCompare .Eq (.ref x) (.ref y)) Q E s := by
  have XX := X0.keeps F.keep
  have left : wpAny (model prog w) A (tryCompare (.ref x) "__eq__" (.ref y)) (fun r s' => ∃ v, r = some v ∧ Q v s') E s := by
    unfold tryCompare
    refine wpAny_bind (PySem.W.ifBound_K XX I hs hf (wpAny_mono h1 (fun v s' hv => ?_) fun _ _ e => e))
    cases v <;> first | exact hv.elim | exact wpAny_pure ⟨_, rfl, hv⟩
  have right : wpAny (model prog w) A (tryCompare (.ref y) "__eq__" (.ref x)) (fun r s' => ∃ v, r = some v ∧ Q v s') E s := by
    unfold tryCompare
    refine wpAny_bind (PySem.W.ifBound_K XX I2 hs2 hf (wpAny_mono h2 (fun v s' hv => ?_) fun _ _ e => e))
    cases v <;> first | exact hv.elim | exact wpAny_pure ⟨_, rfl, hv⟩
  unfold richCompare
  simp only [PySem.oneThing_ref]
  refine wpAny_holding (wpAny_bind (wpAny_cRoomFor hu ?_))
  refine wpAny_bind (I.type.here (wpAny_bind (I2.type.here ?_)))
  split
  · rename_i q
    rcases hsub with e | ⟨b, e⟩
    · rw [e] at q
      simp at q
    · refine wpAny_bind ((PySem.W.looks_subIn XX e).here ?_)
      cases b with
      | true =>
        simp only [if_true]
        refine wpAny_bind (wpAny_mono right (fun r s' z => ?_) fun _ _ e => e)
        obtain ⟨v, rfl, hq⟩ := z
        exact wpAny_bind (wpAny_rule (wpAny_pure hq))
      | false =>
        simp only [Bool.false_eq_true, if_false]
        refine wpAny_bind (wpAny_mono left (fun r s' z => ?_) fun _ _ e => e)
        obtain ⟨v, rfl, hq⟩ := z
        exact wpAny_pure hq
  · refine wpAny_bind (wpAny_pure ?_)
    simp only [Bool.false_eq_true, if_false]
    refine wpAny_bind (wpAny_mono left (fun r s' z => ?_) fun _ _ e => e)
    obtain ⟨v, rfl, hq⟩ := z
    exact wpAny_pure hq
end
abbrev asB (P : DK) : DK := fun r M => ∃ b, r = .bl b ∧ P (.bl b) M
def eqI (okC : Addr → Prop) (g : DSp) : G2 := fun d1 d2 M P => (∃ C1 fs1 C2 fs2, InsM okC M d1 C1 fs1 ∧ InsM okC M d2 C2 fs2 ∧ g [d1, d2] M (asB P) ∧ g [d2, d1] M (asB P)) ∨ eqD d1 d2 M P
theorem eq_subs {K : PySem.W.Frag} {b c : Addr} (h1 : PySem.W.subIn K (.ref b) (.ref c) = some false) (h2 : PySem.W.subIn K (.ref c) (.ref b) = some true) : ∀ C1 C2 : Addr, okBC b c C1 → okBC b c C2 → C1 = C2 ∨ ∃ r, PySem.W.subIn K (.ref C2) (.ref C1) = some r := by
  rintro C1 C2 (rfl | rfl) (rfl | rfl)
  · exact .inl rfl
  · exact .inr ⟨_, h2⟩
  · exact .inr ⟨_, h1⟩
  · exact .inl rfl
theorem od_eqI {X : Cx} {okC : Addr → Prop} {f : Addr} {fd : FuncData} {k : Nat} {g : DSp} (hgd : X.A.guards = some []) (hr : Room k X.A) (hC : ∀ C, okC C → PySem.W.findIn X.K (.ref C) "__eq__" = some (some (.ref f)) ∧ PySem.W.isFn X.K (.ref f) = true)
    (hS : ∀ C1 C2 : Addr, okC C1 → okC C2 → C1 = C2 ∨ ∃ r, PySem.W.subIn X.K (.ref C2) (.ref C1) = some r) (F : FnG X.prog X.w X.K X.mg X.base CX0 k f fd ["self", "other"] (spD X.K g)) (hb : Binds X.K fd ["self", "other"] []) : OpD X (compareOp .Eq) (eqI okC g) := by
  intro pins s σ H x y v u Q I rx ry h
  obtain ⟨W, dx, dy, P, rfl, ok, r1, r2, gg, k0⟩ := h
  rcases gg with ⟨C1, fs1, C2, fs2, ⟨a, dxa, rfl, m1, oc1⟩, ⟨b, dxb, rfl, m2, oc2⟩, g1, g2⟩ | gg
  · cases r1
    cases r2
    obtain rfl : v = Value.ref a := rx
    obtain rfl : u = Value.ref b := ry
    obtain ⟨nN1, gs1, e1, rf1⟩ := ok.m a _ m1
    obtain ⟨nN2, gs2, e2, rf2⟩ := ok.m b _ m2
    obtain ⟨mA, O1, _⟩ := ins_get I.hok e1
    obtain ⟨mB, O2, _⟩ := ins_get I.hok e2
    obtain ⟨od1, IA, _⟩ := O1.look
    obtain ⟨od2, IB, _⟩ := O2.look
    obtain ⟨m, hF⟩ := I.fr
    have run : ∀ (p q : Addr), g [.obj (.ref p), .obj (.ref q)] W.M (asB P) → wpAny (model X.prog X.w) X.A (call (.ref f) [.ref p, .ref q]) (PySem.W.CmpBack fun v s' => EP X pins σ Q v s') X.xe s := by
      intro p q hg
      have sp : spD X.K g [.ref p, .ref q] W.H (fun v H' => ∃ b, v = .bl b ∧ Q (.bl b) H') E0 := ⟨W, _, _, rfl, ok, .cons (.obj _) (.cons (.obj _) .nil), hg, fun d W2 v p f2 k2 r2 => by
        obtain ⟨b, rfl, p⟩ := p
        cases r2
        exact ⟨b, rfl, k0 _ W2 _ p f2 k2 (.bl _)⟩⟩
      have bd := hb s [.ref p, .ref q] I.kIn rfl
      refine wpAny_call (codeAny_mono (F.run X.A X.stack s W.H ⟨[.ref p, .ref q], []⟩ [.ref p, .ref q] [.ref p, .ref q] _ E0 hgd hr I.env0 bd (.cons rfl (.cons rfl .nil)) sp) fun r s' hq => ?_)
      cases r with
      | error e => exact hq.elim
      | ok fl =>
        cases fl with
        | ret u =>
          obtain ⟨v, H', I3, rv, b, rfl, q3⟩ := I.after hq
          obtain rfl : u = Value.bool b := rv
          exact ⟨.bl b, H', I3, rfl, q3⟩
        | next => exact False.elim hq
        | brk => exact False.elim hq
        | cont => exact False.elim hq
    exact cmp_two hr.units0 hF I.ok.mod.kin IA IB (hS _ _ oc1 oc2) (hC _ oc1).1 (hC _ oc2).1 (hC _ oc1).2 (run a b g1) (run b a g2)
  · exact od_eq hr.units pins s σ W.H x y v u Q I rx ry ⟨W, dx, dy, P, rfl, ok, r1, r2, gg, k0⟩
end RS
set_option Elab.async false
set_option linter.all false
set_option maxRecDepth 100000
namespace RS
open PySem PySem.Spec PyProof.Rows L2 RS
def isTurZ (v : D) : Bool := match v with
  | .int i => decide (0 ≤ i ∧ i ≤ 24)
  | _ => false
/-- how the making of a calm board ends -/
def madeR (hs : List Int) (t u : D) : Rs :=
  if isTolZ t = false then .error (Str.ofString "BadTolerance", [(Str.ofString "value", t)]) else if isTurZ u = false then .error (Str.ofString "BadTurns", [(Str.ofString "value", u)]) else calmR (some (intZ t, intZ u)) hs
def resK (r : Rs) (p : Prop) (PX : Str → List (Str × D) → Prop) : Prop := match r with
  | .ok _ => p
  | .error x => PX x.1 x.2
def gC_CalmBoard_check_calm (cCalmBoard : Addr) : DSpX := fun ds M P PX => ∃ (a : Addr) (F : List Addr) (rings : List (List Int)) (edits : List D) (p : Int × Int) (hs : List Int), ds = [.obj (.ref a), ringD hs] ∧ BoardF cCalmBoard M a F rings edits (some p) ∧ RingOk hs ∧ resK (calmR (some p) hs) (P .non M) (fun n fs => PX n fs M)
def gC_CalmBoard_keep (cCalmBoard : Addr) : DSpX := fun ds M P PX => ∃ (a : Addr) (F : List Addr) (rings : List (List Int)) (edits : List D) (p : Int × Int) (e : D) (hs : List Int), ds = [.obj (.ref a), e, ringD hs] ∧ BoardF cCalmBoard M a F rings edits (some p) ∧ edits.length < 60 ∧ RingOk hs ∧ endR cCalmBoard M a F rings edits (some p) e P PX (calmR (some p) hs)
def gC_CalmBoard___init__ (cCalmBoard : Addr) : DSpX := fun ds M P PX => ∃ (a dx : Addr) (hs : List Int) (t u : D), ds = [.obj (.ref a), ringD hs, t, u] ∧ M a = some (.ins cCalmBoard dx []) ∧ RingOk hs ∧ t.known = true ∧ u.known = true ∧
  resK (madeR hs t u) (∀ M' F, BoardF cCalmBoard M' a F [hs] [] (some (intZ t, intZ u)) → UpdF [a] M M' → NewF [a] F M → P .non M') (fun n fs => ∀ M', UpdF [a] M M' → PX n fs M')
/-- two boards are equal -/
def eqZ (h1 h2 : List Int) (l1 l2 : Option (Int × Int)) : Bool := decide (h1 = h2) && decide (l1 = l2)
def gC_Board___eq__ (okC : Addr → Prop) : DSp := fun ds M P => ∃ (C1 a1 : Addr) (F1 : List Addr) (R1 : List (List Int)) (e1 : List D) (l1 : Option (Int × Int)) (C2 a2 : Addr) (F2 : List Addr) (R2 : List (List Int)) (e2 : List D) (l2 : Option (Int × Int)) (h1 h2 : List Int),
  ds = [.obj (.ref a1), .obj (.ref a2)] ∧ BoardF C1 M a1 F1 R1 e1 l1 ∧ BoardF C2 M a2 F2 R2 e2 l2 ∧ okC C1 ∧ okC C2 ∧ R1.getLast? = some h1 ∧ R2.getLast? = some h2 ∧ P (.bl (eqZ h1 h2 l1 l2)) M
def wC_CalmBoard___init__ (okC : Addr → Prop) (cCalmBoard : Addr) : DS := wSeq (wDrop (wSup (okB cCalmBoard) (fun _ => (gZ_Board___init__ okC)) 0 (wCons (wName 1) (wNil)))) (wSeq (wDropX (wNX gZ_check_tolerance (wCons (wName 2) (wNil)))) (wSeq (wIf (wOrT (wNotT (wTru (wN g_is_number (wCons (wName 3) (wNil))))) (wNotT (wChain leD leD (wC (.int 0)) (wName 3) (wC (.int 24))))) (wRaise1 "BadTurns" "value" (wName 3)) (wNext)) (wSeq (wSetFld (okB cCalmBoard) (wN gTupN (wCons (wName 2) (wCons (wName 3) (wNil)))) (wName 0) "limits") (wDropX (wMetX (okB cCalmBoard) "check_calm" (fun ds _ => ds) (fun _ => (gC_CalmBoard_check_calm cCalmBoard)) (wName 0) (wCons (wName 1) (wNil)) (wNil))))))
def wC_CalmBoard_keep (okC : Addr → Prop) (cCalmBoard : Addr) : DS := wSeq (wDropX (wMetX (okB cCalmBoard) "check_calm" (fun ds _ => ds) (fun _ => (gC_CalmBoard_check_calm cCalmBoard)) (wName 0) (wCons (wName 2) (wNil)) (wNil))) (wRetX (wSupX (okB cCalmBoard) (fun _ => (gZ_Board_keep okC)) 0 (wCons (wName 1) (wCons (wName 2) (wNil)))))
def wC_CalmBoard_check_calm (cCalmBoard : Addr) : DS := wSeq (wAsg (wFld (okB cCalmBoard) (wName 0) "limits") (Tg.tp [Tg.nm 2, Tg.nm 3])) (wSeq (wSet 4 (wN g_least_turns (wCons (wName 1) (wCons (wName 2) (wNil))))) (wIf (wCmpT gtD (wName 4) (wName 3)) (wRaise1 "Restless" "number" (wName 4)) (wNext)))
end RS
set_option Elab.async false
set_option linter.all false
set_option maxRecDepth 100000
/-! The methods of a calm board. -/
namespace RS
open PySem PySem.Spec PyProof.Rows L2
section
variable {okC : Addr → Prop} {c cB : Addr} {P : DK} {PX : DXK} {ds : List D} {M : Mem}
set_option maxHeartbeats 0 in
theorem semC_CalmBoard_check_calm (h : gC_CalmBoard_check_calm c ds M P PX) : ds.length = 2 ∧ wC_CalmBoard_check_calm c (endsX P PX) (ds.map some ++ List.replicate (5 - ds.length) none) M := by
  obtain ⟨a, F, rings, edits, p, hs, rfl, b, ok, q⟩ := h
  obtain ⟨dx, L1, L2, rfl, m1, m2, m3, ne⟩ := id b.ex
  obtain ⟨t0, t1, u0, u1⟩ := b.lm p rfl
  refine ⟨rfl, _, _, _, ⟨a, dx, rfl, m1, rfl⟩, zF_limits _ _ _, ?_⟩
  refine ⟨_, rfl, hs, p.1, rfl, by have := ok.2.1; omega, by omega, ?_⟩
  have e : calmR (some p) hs = if p.2 < leastTurns hs p.1 then .error (Str.ofString "Restless", [(Str.ofString "number", .int (leastTurns hs p.1))]) else .ok hs := rfl
  refine ⟨_, rfl, ite2 (fun z => ?_) (fun z => ?_)⟩
  · have z' : p.2 < leastTurns hs p.1 := of_decide_eq_true z
    rw [e, if_pos z'] at q
    exact q
  · have z' : ¬ p.2 < leastTurns hs p.1 := fun y => z (decide_eq_true y)
    rw [e, if_neg z'] at q
    exact q
set_option maxHeartbeats 0 in
theorem semC_CalmBoard_keep (oc : okC c) (h : gC_CalmBoard_keep c ds M P PX) : ds.length = 3 ∧ wC_CalmBoard_keep okC c (endsX P PX) (ds.map some ++ (some (.obj (.ref c)) :: List.replicate (4 - ds.length - 1) none)) M := by
  obtain ⟨a, F, rings, edits, p, e, hs, rfl, b, few, ok, q⟩ := h
  obtain ⟨fs, i1, i2⟩ := b.ins (okC := okB c) rfl (m := "check_calm") (by decide)
  refine ⟨rfl, _, fs, i1, i2, a, F, rings, edits, p, hs, rfl, b, ok, ?_⟩
  cases er : calmR (some p) hs with
  | error x =>
    rw [er] at q
    exact q
  | ok gs =>
    have eg : gs = hs := by
      simp only [calmR] at er
      split at er
      · cases er
      · cases er
        rfl
    subst eg
    rw [er] at q
    exact ⟨a, _, fs, rfl, i1, c, a, F, rings, edits, some p, e, gs, rfl, b, oc, few, ok, q⟩
set_option maxHeartbeats 0 in
theorem semC_CalmBoard___init__ (oc : okC c) (h : gC_CalmBoard___init__ c ds M P PX) : ds.length = 4 ∧ wC_CalmBoard___init__ okC c (endsX P PX) (ds.map some ++ (some (.obj (.ref c)) :: List.replicate (5 - ds.length - 1) none)) M := by
  obtain ⟨a, dx, hs, t, u, rfl, m, ok, kt, ku, q⟩ := h
  refine ⟨rfl, a, c, [], rfl, ⟨a, dx, rfl, m, rfl⟩, a, dx, c, hs, rfl, m, oc, ok, fun M1 F b1 u1 n1 => ?_⟩
  refine ⟨t, rfl, kt, ?_⟩
  cases et : isTolZ t with
  | false =>
    have e : madeR hs t u = .error (Str.ofString "BadTolerance", [(Str.ofString "value", t)]) := by unfold madeR; rw [et]; rfl
    rw [e] at q
    exact q M1 u1
  | true =>
    obtain ⟨e1, t0, t1⟩ := isTolZ_int et
    have bad : isTurZ u = false → PX (Str.ofString "BadTurns") [(Str.ofString "value", u)] M1 := fun eu => by
      have e : madeR hs t u = .error (Str.ofString "BadTurns", [(Str.ofString "value", u)]) := by unfold madeR; rw [et, eu]; rfl
      rw [e] at q
      exact q M1 u1
    refine ⟨u, rfl, ku, ?_⟩
    cases u with
    | int i =>
      refine ⟨_, rfl, ?_⟩
      by_cases h0 : (0 : Int) ≤ i
      · rw [decide_eq_true h0]
        refine ⟨_, rfl, ?_⟩
        by_cases h1 : i ≤ 24
        · rw [decide_eq_true h1]
          have eu : isTurZ (.int i) = true := decide_eq_true ⟨h0, h1⟩
          have e : madeR hs t (.int i) = calmR (some (intZ t, i)) hs := by unfold madeR; rw [et, eu]; rfl
          rw [e] at q
          obtain ⟨dx1, L1, L2, rfl, m1, m2, m3, ne⟩ := id b1.ex
          have a1 : a ≠ L1 := fun z => by rw [z, m2] at m1; cases m1
          have a2 : a ≠ L2 := fun z => by rw [z, m3] at m1; cases m1
          refine ⟨small_line (by show 2 ≤ 1000000; decide), a, c, dx1, _, rfl, m1, rfl, by show 3 < 1000; decide, ?_⟩
          have eL : D.tup [t, .int i] = limD (some (intZ t, i)) := by
            show _ = D.tup [.int (intZ t), .int i]
            rw [← e1]
          rw [show putD "limits" (D.tup [t, .int i]) (zF L1 L2 none) = zF L1 L2 (some (intZ t, i)) by rw [eL]; exact putZ_limits _ _ _ _]
          have b2 : BoardF c (updM M1 a (.ins c dx1 (zF L1 L2 (some (intZ t, i))))) a [a, L1, L2] [hs] [] (some (intZ t, i)) :=
            ⟨⟨dx1, L1, L2, rfl, updM_same, by rw [updM_ne a1.symm]; exact m2, by rw [updM_ne a2.symm]; exact m3, ne⟩, rfl, by decide, b1.ok, fun p hp => by cases hp; exact ⟨t0, t1, h0, h1⟩⟩
          have u2 : UpdF [a] M (updM M1 a (.ins c dx1 (zF L1 L2 (some (intZ t, i))))) := fun x o hx hm => by
            rw [updM_ne (fun z => hx (List.mem_singleton.mpr z))]
            exact u1 x o hx hm
          obtain ⟨fs, i1, i2⟩ := b2.ins (okC := okB c) rfl (m := "check_calm") (by decide)
          refine ⟨_, fs, i1, i2, a, _, [hs], [], (intZ t, i), hs, rfl, b2, ok, ?_⟩
          cases er : calmR (some (intZ t, i)) hs with
          | error x =>
            rw [er] at q
            exact q _ u2
          | ok gs =>
            rw [er] at q
            exact q _ _ b2 u2 n1
        · rw [decide_eq_false h1]
          exact bad (decide_eq_false fun z => h1 z.2)
      · rw [decide_eq_false h0]
        exact ⟨_, rfl, bad (decide_eq_false fun z => h0 z.1)⟩
    | _ => first | (cases ku; done) | exact bad rfl
theorem eqD_lim {l1 l2 : Option (Int × Int)} (q : P (.bl (decide (l1 = l2))) M) : eqD (limD l1) (limD l2) M P := by
  cases l1 with
  | none =>
    cases l2 with
    | none => exact ⟨⟨rfl, rfl⟩, ⟨rfl, rfl⟩, q⟩
    | some r => exact ⟨⟨rfl, rfl⟩, fit_ti [r.1, r.2], q⟩
  | some p =>
    cases l2 with
    | none => exact ⟨fit_ti [p.1, p.2], ⟨rfl, rfl⟩, q⟩
    | some r =>
      refine ⟨fit_ti [p.1, p.2], fit_ti [r.1, r.2], ?_⟩
      obtain ⟨a, b⟩ := p
      obtain ⟨x, y⟩ := r
      have e : PyData.eqv (D.tup ([a, b].map .int)).py (D.tup ([x, y].map .int)).py = decide ([a, b] = [x, y]) := eqvD_ti _ _
      have e2 : decide ([a, b] = [x, y]) = decide (some (a, b) = some (x, y)) := decide_eq_decide.mpr (by simp)
      show P (.bl (PyData.eqv (D.tup ([a, b].map .int)).py (D.tup ([x, y].map .int)).py)) M
      rw [e, e2]
      exact q
end
end RS
set_option Elab.async false
set_option linter.all false
set_option maxRecDepth 100000
/-! Exceptions as values: made and kept, asked by isinstance, their field read. -/
namespace RS
open PySem PySem.Spec PyProof.Rows L2
/-- an exception of the class cls, its dict (none | at d) -/
def exv (a : Addr) (cls : Value) (d : Option Addr) : HO := .ext fun h => ∃ (oe : Obj) (vs : Array Value), h.get? a = some oe ∧ Zc cls d oe ∧ oe.data = .fields vs
theorem exv_ok {P : Program} {w : World} {H : Hp} {h : Heap} {a : Addr} {cls : Value} {d : Option Addr} {oe : Obj} {vs : Array Value} (e : h.get? a = some oe) (z : Zc cls d oe) (hd : oe.data = .fields vs) : ObjOk P w H h a (exv a cls d) :=
  ⟨⟨oe, vs, e, z, hd⟩, ⟨_, e⟩, fun h1 h2 x k => by
    obtain ⟨o, vs, e, z, hd⟩ := x
    exact ⟨o, vs, k _ e, z, hd⟩⟩
theorem exv_at {P : Program} {w : World} {H : Hp} {h : Heap} {a : Addr} {cls : Value} {d : Option Addr} (hok : HOk P w H h) (e : H a = some (exv a cls d)) : ∃ (oe : Obj) (vs : Array Value), h.get? a = some oe ∧ Zc cls d oe ∧ oe.data = .fields vs := by
  have x : ObjOk P w H h a (.ext fun h => ∃ (oe : Obj) (vs : Array Value), h.get? a = some oe ∧ Zc cls d oe ∧ oe.data = .fields vs) := hok a _ e
  exact x.1
def exA (exs : List Addr) (j : Nat) : Addr := exs.getD j 0
section
variable {X : Cx}
/-- an exception that is made may be kept -/
theorem pe_of_pmk {e : Expr} {t : L2.St → Hp → XK → Prop} (he : PMk X e t) : PE X e (fun σ H Q => t σ H fun cls d H' => ∀ a, H' a = none → Q (.ref a) (upd H' a (exv a cls d))) := by
  refine ⟨fun pins s σ H Q I h => ?_⟩
  refine wpAny_mono (he pins s σ H _ I h) (fun u s' hu => ?_) fun _ _ x => x
  obtain ⟨a, oe, vs, sI, H', cls, d, rfl, J, k, hne, ha, hz, hd, h1, na, os, ag, r, q⟩ := hu
  refine ⟨.ref a, upd H' a (exv a cls d), ?_, rfl, q a na⟩
  obtain ⟨h', g', d', t', os'⟩ := s'
  have J2 : Inv X pins σ (upd H' a (exv a cls d)) { sI with heap := h', toks := t' } := J.laidN (t' := t') k hne na (exv_ok ha hz hd)
  exact ⟨J2.ok, os.trans J.os, ag, J2.base, J2.loc, J2.cell, J2.free, J2.freeC, J2.pin, J2.hok, J2.len⟩
/-! isinstance -/
def rIsV (K : PySem.W.Frag) : List V → Hp → VK → Prop := fun xs H Q => ∃ (a D : Addr) (d : Option Addr) (c : V) (cv : Value) (b : Bool), xs = [.ref a, c] ∧ ClsV c cv ∧ XC K D ∧ H a = some (exv a (.ref D) d) ∧ XdH H d ∧ PySem.W.kitOne K (.ref D) cv = some b ∧ Q (.bl b) H
theorem inst_at {pins : List (Addr × Obj)} {σ : L2.St} {H : Hp} {s : Shared} {a D : Addr} {d : Option Addr} (I : Inv X pins σ H s) (e : H a = some (exv a (.ref D) d)) (xd : XdH H d) : ∃ oe od, PySem.W.InstAt s.heap a oe D od := by
  obtain ⟨oe, vs, ha, hz, hd⟩ := exv_at I.hok e
  cases d with
  | none => exact ⟨oe, none, ha, hz.1, by unfold PySem.W.notCls; rw [hd] <;> rfl, by rw [hz.2]; trivial⟩
  | some dd =>
    obtain ⟨fs, e⟩ := xd dd rfl
    have hx : ObjOk X.prog X.w H s.heap dd (.xd fs) := I.hok dd _ e
    obtain ⟨mA, hns, hr⟩ := hx
    obtain ⟨od, ho, hl⟩ := lookIn_ns hns
    exact ⟨oe, some od, ha, hz.1, by unfold PySem.W.notCls; rw [hd] <;> rfl, by rw [hz.2]; exact ho⟩
theorem call_isV : CallR X (.builtin "isinstance") (rIsV X.K) := by
  intro pins s σ H xs us Q I r h
  obtain ⟨a, D, d, c, cv, b, rfl, hcv, C, ea, xd, e, q⟩ := h
  obtain ⟨u1, u2, rfl, r1, r2⟩ := vals2 r
  cases r1
  have ec := hcv.eq r2
  subst ec
  obtain ⟨oe, od, J⟩ := inst_at I ea xd
  exact PySem.W.kia_one (PySem.W.kitx_exc C.hcl C.ga C.gg C.hs C.ha C.hn C.ht C.hm) I.kIn J e (fun z => nomatch z) fun tk => ⟨.bl b, H, I.tok tk, rfl, q⟩
/-! a field -/
def tFldV (K : PySem.W.Frag) (C : Addr) (f : Str) (te : TE) : TE := fun σ H Q => te σ H fun x H1 => ∃ (a dd : Addr) (fs : List (Str × V)) (v : V), x = .ref a ∧ H1 a = some (exv a (.ref C) (some dd)) ∧ H1 dd = some (.xd fs) ∧ fs.lookup f = some v ∧ Q v H1
theorem pe_fldV {C : Addr} {e : Expr} {te : TE} {pos : Pos} {n : Str} (T : XfC X.K C) (hno : PySem.W.findIn X.K (.ref C) n = some none) (he : PE X e te) (hb : attributeBase e n X.env (eval e X.env) = eval e X.env := by rfl) :
    PE X (.Attribute e n pos) (tFldV X.K C n te) := by
  refine ⟨fun pins s σ H Q I h => ?_⟩
  refine attr_of hb (thn (he.run pins s σ H _ I h) fun u s1 hh => ?_)
  obtain ⟨x, H1, I1, rx, a, dd, fs, v, ex, ea, ed, l, q⟩ := hh
  subst ex
  obtain rfl : u = Value.ref a := rx
  obtain ⟨oe, vs, ha, hz, hd⟩ := exv_at I1.hok ea
  have hx : ObjOk X.prog X.w H1 s1.heap dd (.xd fs) := I1.hok dd _ ed
  obtain ⟨mA, hns, hr⟩ := hx
  obtain ⟨od, ho, hl⟩ := lookIn_ns hns
  obtain ⟨u, hu, ru⟩ := RelO.some_of (v := v) (o := mA n) (by rw [← l]; exact hr n)
  have J : PySem.W.InstAt s1.heap a oe C (some od) := ⟨ha, hz.1, by unfold PySem.W.notCls; rw [hd] <;> rfl, by rw [hz.2]; exact ho⟩
  exact HandSPX.exc_get I1.kIn J T.ga T.gg T.exC (PySem.W.findObj_own T.hdC hno rfl (by rw [hl, hu])) (handed_of ru) ⟨v, H1, I1.tok _, ru, q⟩
end
/-! ### by data -/
def Wd.raw (W : Wd) (a : Addr) (m : MO) (o : HO) : Wd := ⟨updM W.M a m, fun b => W.N b ∨ b = a, upd W.H a o⟩
section
variable {K : PySem.W.Frag} {W : Wd} {a : Addr} {m : MO} {o : HO}
theorem raw_carry (n : W.H a = none) : Carry K W (W.raw a m o) := ⟨fun {b u} h nN => by
  have hne : b ≠ a := ne_of_none h n
  exact ⟨by show upd W.H a o b = _; rw [upd_ne hne]; exact h, fun z => z.elim nN hne⟩⟩
theorem raw_fr (n : W.H a = none) : Fr W (W.raw a m o) := fun b u h1 h2 => by
  have hne : b ≠ a := ne_of_none h2 n
  exact ⟨by show upd W.H a o b = _; rw [upd_ne hne]; exact h2, by show updM W.M a m b = none; rw [updM_ne hne]; exact h1, ⟨fun z => z.elim id fun e => absurd e hne, fun z => .inl z⟩⟩
theorem raw_ok (k : Ok K W) (n : W.H a = none) (h : MOk K (W.raw a m o) a m) : Ok K (W.raw a m o) := ⟨fun b u e => by
  have e' : updM W.M a m b = some u := e
  by_cases hb : b = a
  · subst hb
    rw [updM_same] at e'
    cases e'
    exact ⟨.inr rfl, h⟩
  · rw [updM_ne hb] at e'
    obtain ⟨h1, h2⟩ := k.m b u e'
    exact ⟨.inl h1, h2.carry (raw_carry n) (upd_ne hb)⟩⟩
end
section
variable {X : Cx}
/-- C(), kept -/
def wMk0V (C : Addr) : DW := fun Γ M P => ∀ a, M a = none → P (.obj (.ref a)) (updM M a (.raw (exv a (.ref C) none)))
theorem de_mk0V {e : Expr} {C : Addr} (h : PMk X e (fun _ H Q => Q (.ref C) none H)) : DE X e (wMk0V C) := PE.imp (pe_of_pmk h) fun σ H Q q => by
  obtain ⟨Γ, W, P, rfl, c, w, k⟩ := q
  intro a na
  exact k (.obj (.ref a)) (W.raw a (.raw (exv a (.ref C) none)) (exv a (.ref C) none)) _ (w a (c.ok.nil_ na)) (raw_fr na) (raw_ok c.ok na (by show upd W.H a _ a = _; exact upd_same)) (.obj _)
/-- C(e), kept -/
def wMk1V (C : Addr) (f : Str) (we : DW) : DW := fun Γ M P => we Γ M fun d M1 => ∀ dx a, M1 dx = none → updM M1 dx (.xd [(f, d)]) a = none → P (.obj (.ref a)) (updM (updM M1 dx (.xd [(f, d)])) a (.raw (exv a (.ref C) (some dx))))
theorem de_mk1V {x f : Str} {C fI : Addr} {fd : FuncData} {p pos' : Pos} {e : Expr} {we : DW} {bmB : List Value} {B newId initId : String} (FB : ExcBaseFacts B newId initId bmB)
    (T : OexB X.K C bmB newId) (hno : PySem.W.findIn X.K (.ref C) f = some none) (iC : PySem.W.findIn X.K (.ref C) "__init__" = some (some (.ref fI))) (tI : PySem.W.typeIn X.K (.ref fI) = some (.type "function"))
    (F1 : FnOk X.prog X.w X.K X.mg X.base CX0 1 fI fd ["self", f] (spIniB C f bmB newId X.K)) (hr : Room 2 X.A) (hb : Binds X.K fd ["self", f] []) (hg : Gl X x) (hm : X.mg x = some (.ref C)) (he : DE X e we)
    (hdb : (x == ("__debug__" : Str)) = false := by decide) (hs : starEach [e] X.env = (false, eval e X.env) :: starEach [] X.env := by rfl) (hpl : (backTo pos' (starEach [] X.env)).any (·.1) = false := by rfl) :
    DE X (.Call (.Name x p) [e] [] pos') (wMk1V C f we) := by
  refine PE.imp (pe_of_pmk (pmk_exb (CX := CX0) (p := p) (pos := pos') FB T iC tI F1 hr hb pass0 hg hm (pa_cons he pa_nil hs) hdb hs hpl)) fun σ H Q q => ?_
  obtain ⟨Γ, W, P, rfl, c, w, k⟩ := q
  refine ⟨Γ, W, _, rfl, c, w, fun xd W1 v w1 f1 k1 r1 => ⟨by show 1 ≤ 1000; decide, fun a na => ?_⟩⟩
  refine ⟨a, v, rfl, T, hno, upd_same, fun dx ndx hne => ⟨rfl, dx, [(f, v)], upd_same, ?_, ?_, ?_⟩⟩
  · rw [upd_ne hne, upd_same]
  · rw [upd_ne hne] at ndx
    exact ndx
  · rw [upd_ne hne] at ndx
    rw [del_upd na hne]
    intro b nb
    have f2 := raw_fr (W := W1) (m := .xd [(f, xd)]) (o := .xd [(f, v)]) ndx
    have k2 : Ok X.K (W1.raw dx (.xd [(f, xd)]) (.xd [(f, v)])) := raw_ok k1 ndx ⟨[(f, v)], upd_same, .cons (Rv.carry (raw_carry ndx) _ _ r1) .nil⟩
    have nb' : (W1.raw dx (.xd [(f, xd)]) (.xd [(f, v)])).H b = none := nb
    have f3 := raw_fr (W := W1.raw dx (.xd [(f, xd)]) (.xd [(f, v)])) (m := .raw (exv b (.ref C) (some dx))) (o := exv b (.ref C) (some dx)) nb'
    exact k (.obj (.ref b)) _ _ (w1 dx b (k1.nil_ ndx) (k2.nil_ nb')) ((f1.trans f2).trans f3) (raw_ok k2 nb' upd_same) (.obj _)
/-- isinstance of such a value, by where its class stands in a list -/
def isV (exs : List Addr) (bs : List Bool) (c : V) : GN := fun ds M P => ∃ (a D : Addr) (d : Option Addr) (j : Nat) (b : Bool), ds = [.obj (.ref a), .obj c] ∧ exs[j]? = some D ∧ bs[j]? = some b ∧ M a = some (.raw (exv a (.ref D) d)) ∧ XdM M d ∧ P (.bl b) M
theorem cd_isV {exs : List Addr} {bs : List Bool} {c : V} {u : Value} (hcl : ClsV c u) (hX : ∀ D ∈ exs, XC X.K D) (hk : exs.map (fun D => PySem.W.kitOne X.K (.ref D) u) = bs.map some) : CallD X (.builtin "isinstance") (isV exs bs c) := by
  intro pins s σ H xs us Q I r h
  obtain ⟨W, ds, P, rfl, ok, rs, g, k⟩ := h
  obtain ⟨a, D, d, j, b, rfl, hD, hb, m, xd, p⟩ := g
  obtain ⟨v0, v1, rfl, q0, q1⟩ := rvs2 rs
  cases q0
  cases q1
  obtain ⟨_, eH⟩ := ok.m a _ m
  have hk1 : PySem.W.kitOne X.K (.ref D) u = some b := by
    have e : (exs.map (fun D => PySem.W.kitOne X.K (.ref D) u))[j]? = (bs.map some)[j]? := by rw [hk]
    rw [List.getElem?_map, List.getElem?_map, hD, hb] at e
    exact Option.some.inj e
  exact call_isV pins s σ W.H _ us Q I r ⟨a, D, d, c, u, b, rfl, hcl, hX D (List.mem_of_getElem? hD), eH, xd.h ok, hk1, k.now ok (.bl _) p⟩
/-- e.f of such a value -/
@[irreducible] def wFldV (C : Addr) (we : DW) (f : Str) : DW := fun Γ M P => we Γ M fun o M1 => ∃ (a dd : Addr) (fs : List (Str × D)) (x : D), o = .obj (.ref a) ∧ M1 a = some (.raw (exv a (.ref C) (some dd))) ∧ M1 dd = some (.xd fs) ∧ fs.lookup f = some x ∧ P x M1
theorem de_fldV {e : Expr} {C : Addr} {f : Str} {we : DW} (h : PE X e (tFldV X.K C f (lift X.K we))) : DE X e (wFldV C we f) := PE.imp h fun σ H Q q => by
  obtain ⟨Γ, W, P, rfl, c, w, k⟩ := q
  unfold wFldV at w
  refine ⟨Γ, W, _, rfl, c, w, fun o W1 v w1 f1 k1 r1 => ?_⟩
  obtain ⟨a, dd, fs, x, rfl, m1, m2, l, w1⟩ := w1
  cases r1
  obtain ⟨_, eH⟩ := k1.m a _ m1
  obtain ⟨_, gs, eD, rf⟩ := k1.m dd _ m2
  obtain ⟨v, hl, rv⟩ := rf.lookup l
  exact ⟨a, dd, gs, v, rfl, eH, eD, hl, k x W1 v w1 f1 k1 rv⟩
end
end RS
set_option Elab.async false
set_option linter.all false
set_option maxRecDepth 100000
/-! != of instances whose class says == ; == and != with a value of another kind. -/
namespace RS
open PySem PySem.Spec PyProof.Rows L2
section
variable {prog : Program} {w : World} {A : Around} {E : Value → Shared → Prop} {s : Shared} {K : PySem.W.Frag} {x y C C2 f L : Addr} {h₀ : Heap} {m : Str → Option Value} {ox oy : Obj} {od od2 : Option Obj} {v tb : Value}
/-- a special method that is a built-in one -/
theorem ifBound_B {M : Model} {id : String} {name : Str} {args : List Value} {Q : Option Value → Shared → Prop} (X : K.In s.heap) (I : PySem.W.InstAt s.heap x ox C od) (hs : PySem.W.findIn K (.ref C) name = some (some (.builtin id)))
    (S : ∀ self, bindSpecial (.builtin id) self = pure (.builtin id, [self])) (h : wpAny M A (call (.builtin id) (.ref x :: args)) (fun v => Q (some v)) E s) : wpAny M A (callSpecialIfBound? (.ref x) name args) Q E s := by
  simp only [callSpecialIfBound?, bindSpecialIfBound?]
  refine wpAny_holding (wpAny_bind (wpAny_bind (wpAny_bind (I.type.here ((PySem.W.looks_findIn X hs).here ?_)))))
  simp only [S]
  refine wpAny_bind (wpAny_askSetting (wpAny_ite ?_))
  have fin : wpAny M A (call (.builtin id) ([.ref x] ++ args) >>= fun v => pure (some v)) Q E s := wpAny_bind (wpAny_mono h (fun v s' h' => wpAny_pure h') fun _ _ h' => h')
  split
  · exact wpAny_bind (wpAny_pure (wpAny_pure fin))
  · exact wpAny_tryCatch (wpAny_bind (wpAny_pure (wpAny_pure fin)))
theorem ne_entry {Q : Fin → Shared → Prop} (X : K.In s.heap) (I : PySem.W.InstAt s.heap x ox C od) (hs : PySem.W.findIn K (.ref C) "__eq__" = some (some (.ref f))) (hf : PySem.W.isFn K (.ref f) = true) (hu : A.units < cLine)
    (hcall : wpAny (model prog w) A (call (.ref f) [.ref x, v]) (fun r s' => ∃ b, r = .bool b ∧ Q (.done (.ret (.bool (!b)))) s') E s) : wpAny (model prog w) A (Builtin.«object.__ne__» ⟨[.ref x, v], []⟩) Q E s := by
  obtain ⟨h, g, d, t, os⟩ := s
  unfold Builtin.«object.__ne__»
  repeat (first
    | with_reducible refine wpAny_cRoomFor hu ?_
    | (refine wpAny_bind (m := callSpecialIfBound? (.ref x) (Str.ofString "__eq__") [v])
        (PySem.W.ifBound_K X I hs hf (wpAny_mono hcall (fun r s' hr => by
          obtain ⟨b, rfl, hq⟩ := hr
          repeat (first | exact hq | exact wpAny_pure hq | exact wpAny_truthy_bool hq | (refine wpAny_bind (m := truthy (.bool _)) (wpAny_truthy_bool ?_)) | wp_step)) fun _ _ e => e)))
    | wp_step)
theorem try_ne {Q : Bool → Shared → Prop} (X : K.In s.heap) (I : PySem.W.InstAt s.heap x ox C od) (hne : PySem.W.findIn K (.ref C) "__ne__" = some (some (.builtin "object.__ne__"))) (hm : PySem.W.mroIn K C (.type "object") = some true)
    (hs : PySem.W.findIn K (.ref C) "__eq__" = some (some (.ref f))) (hf : PySem.W.isFn K (.ref f) = true) (hu : A.units + 1 < cLine)
    (hcall : wpAny (model prog w) A.in1 (call (.ref f) [.ref x, v]) (fun r s' => ∃ b, r = .bool b ∧ Q (!b) s') E s) : wpAny (model prog w) A (tryCompare (.ref x) "__ne__" v) (fun r s' => ∃ b, r = some (.bool b) ∧ Q b s') E s := by
  unfold tryCompare
  refine wpAny_bind (ifBound_B X I hne PySem.F.cmp_object.ne.bind ?_)
  refine wpAny_call (codeAny_call_builtin PySem.F.cmp_object.ne.plain PySem.F.cmpEntry_ne (@PySem.W.check_slot (model prog w) _ _ s "object.__ne__" "object" "__ne__" (.ref x) [v] [] _ PySem.F.cmpKind_ne PySem.F.cmpSplit_ne (I.type.andThen (PySem.W.looks_mroIn X hm)) (PySem.F.cmpArgs_ne _ _)
    (ne_entry (A := A.in1) X I hs hf hu (wpAny_mono hcall (fun r s' hv => ?_) fun _ _ e => e))))
  obtain ⟨b, rfl, hq⟩ := hv
  first | exact ⟨b, rfl, _, rfl, wpAny_pure ⟨_, rfl, hq⟩⟩ | exact ⟨b, rfl, wpAny_pure ⟨_, rfl, hq⟩⟩ | exact ⟨b, rfl, wpAny_pure (wpAny_pure ⟨_, rfl, hq⟩)⟩
/-- != with a value of another kind -/
theorem ne_odd {Q : Value → Shared → Prop} (hu : A.units + 1 < cLine) (F : PyProof.Rows.Fr h₀ L s.heap m) (X0 : K.In h₀) (I : PySem.W.InstAt s.heap x ox C od) (hb : PySem.W.Looks (model prog w) s.heap (typeOf v) tb) (hn : PySem.W.notFirst K C tb = true)
    (hne : PySem.W.findIn K (.ref C) "__ne__" = some (some (.builtin "object.__ne__"))) (hm : PySem.W.mroIn K C (.type "object") = some true)
    (hs : PySem.W.findIn K (.ref C) "__eq__" = some (some (.ref f))) (hf : PySem.W.isFn K (.ref f) = true)
    (hcall : wpAny (model prog w) A.in1 (call (.ref f) [.ref x, v]) (fun r s' => ∃ b, r = .bool b ∧ Q (.bool (!b)) s') E s) : wpAny (model prog w) A (richCompare .NotEq (.ref x) v) Q E s := by
  have XX := X0.keeps F.keep
  have one := try_ne (Q := fun b s' => Q (.bool b) s') XX I hne hm hs hf hu hcall
  unfold richCompare
  simp only [PySem.oneThing_ref]
  refine wpAny_holding (wpAny_bind (wpAny_cRoomFor (Nat.lt_of_succ_lt hu) ?_))
  refine wpAny_bind (I.type.here (wpAny_bind (hb.here ?_)))
  split
  · rename_i q
    have e : PySem.W.subIn K tb (.ref C) = some false := by
      rcases Bool.or_eq_true_iff.mp hn with e | e
      · rw [beq_iff_eq.mp e] at q; simp at q
      · exact beq_iff_eq.mp e
    refine wpAny_bind ((PySem.W.looks_subIn XX e).here ?_)
    simp only [Bool.false_eq_true, if_false]
    refine wpAny_bind (wpAny_mono one (fun r s' z => ?_) fun _ _ e => e)
    obtain ⟨v, rfl, hq⟩ := z
    exact wpAny_pure hq
  · refine wpAny_bind (wpAny_pure ?_)
    simp only [Bool.false_eq_true, if_false]
    refine wpAny_bind (wpAny_mono one (fun r s' z => ?_) fun _ _ e => e)
    obtain ⟨v, rfl, hq⟩ := z
    exact wpAny_pure hq
/-- != of two instances -/
theorem ne_two {Q : Value → Shared → Prop} (hu : A.units + 1 < cLine) (F : PyProof.Rows.Fr h₀ L s.heap m) (X0 : K.In h₀) (I : PySem.W.InstAt s.heap x ox C od) (I2 : PySem.W.InstAt s.heap y oy C2 od2) (hsub : C = C2 ∨ ∃ b, PySem.W.subIn K (.ref C2) (.ref C) = some b)
    (hne : PySem.W.findIn K (.ref C) "__ne__" = some (some (.builtin "object.__ne__"))) (hm : PySem.W.mroIn K C (.type "object") = some true) (hne2 : PySem.W.findIn K (.ref C2) "__ne__" = some (some (.builtin "object.__ne__"))) (hm2 : PySem.W.mroIn K C2 (.type "object") = some true)
    (hs : PySem.W.findIn K (.ref C) "__eq__" = some (some (.ref f))) (hs2 : PySem.W.findIn K (.ref C2) "__eq__" = some (some (.ref f))) (hf : PySem.W.isFn K (.ref f) = true)
    (h1 : wpAny (model prog w) A.in1 (call (.ref f) [.ref x, .ref y]) (fun r s' => ∃ b, r = .bool b ∧ Q (.bool (!b)) s') E s) (h2 : wpAny (model prog w) A.in1 (call (.ref f) [.ref y, .ref x]) (fun r s' => ∃ b, r = .bool b ∧ Q (.bool (!b)) s') E s) :
    wpAny (model prog w) A (richCompare .NotEq (.ref x) (.ref y)) Q E s := by
  have XX := X0.keeps F.keep
  have left := try_ne (Q := fun b s' => Q (.bool b) s') XX I hne hm hs hf hu h1
  have right := try_ne (Q := fun b s' => Q (.bool b) s') XX I2 hne2 hm2 hs2 hf hu h2
  unfold richCompare
  simp only [PySem.oneThing_ref]
  refine wpAny_holding (wpAny_bind (wpAny_cRoomFor (Nat.lt_of_succ_lt hu) ?_))
  refine wpAny_bind (I.type.here (wpAny_bind (I2.type.here ?_)))
  split
  · rename_i q
    rcases hsub with e | ⟨b, e⟩
    · rw [e] at q
      simp at q
    · refine wpAny_bind ((PySem.W.looks_subIn XX e).here ?_)
      cases b with
      | true =>
        simp only [if_true]
        refine wpAny_bind (wpAny_mono right (fun r s' z => ?_) fun _ _ e => e)
        obtain ⟨v, rfl, hq⟩ := z
        exact wpAny_bind (wpAny_rule (wpAny_pure hq))
      | false =>
        simp only [Bool.false_eq_true, if_false]
        refine wpAny_bind (wpAny_mono left (fun r s' z => ?_) fun _ _ e => e)
        obtain ⟨v, rfl, hq⟩ := z
        exact wpAny_pure hq
  · refine wpAny_bind (wpAny_pure ?_)
    simp only [Bool.false_eq_true, if_false]
    refine wpAny_bind (wpAny_mono left (fun r s' z => ?_) fun _ _ e => e)
    obtain ⟨v, rfl, hq⟩ := z
    exact wpAny_pure hq
end
end RS
set_option Elab.async false
set_option linter.all false
set_option maxRecDepth 100000
/-! == and != of instances by data: with one another, and with a value of another kind. -/
namespace RS
open PySem PySem.Spec PyProof.Rows L2
theorem run_g {X : Cx} {f : Addr} {fd : FuncData} {k : Nat} {g : DSp} {A' : Around} (hgd : A'.guards = some []) (hr : Room k A') (hfr : A'.frames = X.A.frames) (F : FnG X.prog X.w X.K X.mg X.base CX0 k f fd ["self", "other"] (spD X.K g)) (hb : Binds X.K fd ["self", "other"] [])
    {pins : List (Addr × Obj)} {σ : L2.St} {s : Shared} {W : Wd} (I : Inv X pins σ W.H s) (ok : Ok X.K W) {v1 v2 : V} {u1 u2 : Value} {d1 d2 : D} (q1 : Rv X.K W v1 d1) (q2 : Rv X.K W v2 d2) (r1 : RelV v1 u1) (r2 : RelV v2 u2) {R : Bool → Mem → Prop} {Q : VK} {t : Bool → Bool}
    (hg : g [d1, d2] W.M fun r M => ∃ b, r = .bl b ∧ R b M) (k0 : ∀ b W', R b W'.M → Fr W W' → Ok X.K W' → Q (.bl (t b)) W'.H) : wpAny (model X.prog X.w) A' (call (.ref f) [u1, u2]) (fun r s' => ∃ b, r = .bool b ∧ EP X pins σ Q (.bool (t b)) s') X.xe s := by
  have sp : spD X.K g [v1, v2] W.H (fun v H' => ∃ b, v = .bl b ∧ Q (.bl (t b)) H') E0 := ⟨W, _, _, rfl, ok, .cons q1 (.cons q2 .nil), hg, fun d W2 v p f2 k2 r2 => by
    obtain ⟨b, rfl, p⟩ := p
    cases r2
    exact ⟨b, rfl, k0 b W2 p f2 k2⟩⟩
  have bd := hb s [u1, u2] I.kIn rfl
  have e0 : Env0 X.prog X.w X.K X.mg X.base A' X.stack s W.H := by
    have e := I.env0
    exact ⟨by rw [hfr]; exact e.frames, e.mod, e.bs, e.bsz, e.funs, e.frf, e.hok, e.bare⟩
  refine wpAny_call (codeAny_mono (F.run A' X.stack s W.H ⟨[u1, u2], []⟩ [u1, u2] [v1, v2] _ E0 hgd hr e0 bd (.cons r1 (.cons r2 .nil)) sp) fun r s' hq => ?_)
  cases r with
  | error e => exact hq.elim
  | ok fl =>
    cases fl with
    | ret u =>
      obtain ⟨v, H', I3, rv, b, rfl, q3⟩ := I.after hq
      obtain rfl : u = Value.bool b := rv
      exact ⟨b, rfl, .bl (t b), H', I3, rfl, q3⟩
    | next => exact False.elim hq
    | brk => exact False.elim hq
    | cont => exact False.elim hq
abbrev asN (P : DK) : DK := fun r M => ∃ b, r = .bl b ∧ P (.bl (!b)) M
def tyAll : List String := ["NoneType", "bool", "int", "str", "tuple", "list", "dict"]
theorem ty_all {d : D} (h : d.known = true) : tyName d ∈ tyAll := by
  cases d with
  | obj v => cases h
  | tpf v => cases h
  | _ => simp [tyName, tyAll]
def eqJ (okC : Addr → Prop) (g : DSp) : G2 := fun d1 d2 M P => (∃ C fs, InsM okC M d1 C fs ∧ d2.known = true ∧ g [d1, d2] M (asB P)) ∨ eqI okC g d1 d2 M P
def neJ (okC : Addr → Prop) (g : DSp) : G2 := fun d1 d2 M P => (∃ C fs, InsM okC M d1 C fs ∧ d2.known = true ∧ g [d1, d2] M (asN P)) ∨
  (∃ C1 fs1 C2 fs2, InsM okC M d1 C1 fs1 ∧ InsM okC M d2 C2 fs2 ∧ g [d1, d2] M (asN P) ∧ g [d2, d1] M (asN P)) ∨ neD d1 d2 M P
structure EqC (K : PySem.W.Frag) (f C : Addr) : Prop where
  eq : PySem.W.findIn K (.ref C) "__eq__" = some (some (.ref f))
  fn : PySem.W.isFn K (.ref f) = true
  ne : PySem.W.findIn K (.ref C) "__ne__" = some (some (.builtin "object.__ne__"))
  ob : PySem.W.mroIn K C (.type "object") = some true
  ty : ∀ n ∈ tyAll, PySem.W.notFirst K C (.type n) = true
section
variable {X : Cx} {okC : Addr → Prop} {f : Addr} {fd : FuncData} {k : Nat} {g : DSp}
theorem od_eqJ (hgd : X.A.guards = some []) (hr : Room k X.A) (hC : ∀ C, okC C → EqC X.K f C)
    (hS : ∀ C1 C2 : Addr, okC C1 → okC C2 → C1 = C2 ∨ ∃ r, PySem.W.subIn X.K (.ref C2) (.ref C1) = some r) (F : FnG X.prog X.w X.K X.mg X.base CX0 k f fd ["self", "other"] (spD X.K g)) (hb : Binds X.K fd ["self", "other"] []) : OpD X (compareOp .Eq) (eqJ okC g) := by
  intro pins s σ H x y v u Q I rx ry h
  obtain ⟨W, dx, dy, P, rfl, ok, r1, r2, gg, k0⟩ := h
  rcases gg with ⟨C, fs, ⟨a, dxa, rfl, m1, oc⟩, hk, hg⟩ | gg
  · cases r1
    obtain rfl : v = Value.ref a := rx
    obtain ⟨nN1, gs1, e1, rf1⟩ := ok.m a _ m1
    obtain ⟨mA, O1, _⟩ := ins_get I.hok e1
    obtain ⟨od1, IA, _⟩ := O1.look
    obtain ⟨m, hF⟩ := I.fr
    obtain ⟨Pk, kt, hp, _⟩ := kit_of I ry (tyName_of r2 hk)
    have c := hC C oc
    refine PySem.W.cmp_K (op := .Eq) (tb := .type (tyName dy)) hr.units0 hF I.ok.mod.kin IA (kt.ty _ _ I.kIn hp) (c.ty _ (ty_all hk)) c.eq c.fn ?_
    refine wpAny_mono (run_g (t := fun b => b) (R := fun b M => P (.bl b) M) hgd hr rfl F hb I ok (.obj _) r2 (show RelV (V.ref a) (Value.ref a) from rfl) ry hg fun b W' p f' k' => k0 (.bl b) W' _ p f' k' (.bl b)) (fun r s' z => ?_) fun _ _ e => e
    obtain ⟨b, rfl, q⟩ := z
    exact q
  · exact od_eqI hgd hr (fun C oc => ⟨(hC C oc).eq, (hC C oc).fn⟩) hS F hb pins s σ W.H x y v u Q I rx ry ⟨W, dx, dy, P, rfl, ok, r1, r2, gg, k0⟩
theorem od_neJ (hgd : X.A.guards = some []) (hr : Room (k + 1) X.A) (hC : ∀ C, okC C → EqC X.K f C)
    (hS : ∀ C1 C2 : Addr, okC C1 → okC C2 → C1 = C2 ∨ ∃ r, PySem.W.subIn X.K (.ref C2) (.ref C1) = some r) (F : FnG X.prog X.w X.K X.mg X.base CX0 k f fd ["self", "other"] (spD X.K g)) (hb : Binds X.K fd ["self", "other"] []) : OpD X (compareOp .NotEq) (neJ okC g) := by
  intro pins s σ H x y v u Q I rx ry h
  obtain ⟨W, dx, dy, P, rfl, ok, r1, r2, gg, k0⟩ := h
  have hu : X.A.units + 1 < cLine := by have := hr.units; omega
  rcases gg with ⟨C, fs, ⟨a, dxa, rfl, m1, oc⟩, hk, hg⟩ | ⟨C1, fs1, C2, fs2, ⟨a, dxa, rfl, m1, oc1⟩, ⟨b, dxb, rfl, m2, oc2⟩, g1, g2⟩ | gg
  · cases r1
    obtain rfl : v = Value.ref a := rx
    obtain ⟨nN1, gs1, e1, rf1⟩ := ok.m a _ m1
    obtain ⟨mA, O1, _⟩ := ins_get I.hok e1
    obtain ⟨od1, IA, _⟩ := O1.look
    obtain ⟨m, hF⟩ := I.fr
    obtain ⟨Pk, kt, hp, _⟩ := kit_of I ry (tyName_of r2 hk)
    have c := hC C oc
    refine ne_odd (tb := .type (tyName dy)) hu hF I.ok.mod.kin IA (kt.ty _ _ I.kIn hp) (c.ty _ (ty_all hk)) c.ne c.ob c.eq c.fn ?_
    exact run_g (t := fun b => !b) (R := fun b M => P (.bl (!b)) M) (A' := X.A.in1) hgd hr.in1 rfl F hb I ok (.obj _) r2 (show RelV (V.ref a) (Value.ref a) from rfl) ry hg fun b W' p f' k' => k0 (.bl (!b)) W' _ p f' k' (.bl _)
  · cases r1
    cases r2
    obtain rfl : v = Value.ref a := rx
    obtain rfl : u = Value.ref b := ry
    obtain ⟨nN1, gs1, e1, rf1⟩ := ok.m a _ m1
    obtain ⟨nN2, gs2, e2, rf2⟩ := ok.m b _ m2
    obtain ⟨mA, O1, _⟩ := ins_get I.hok e1
    obtain ⟨mB, O2, _⟩ := ins_get I.hok e2
    obtain ⟨od1, IA, _⟩ := O1.look
    obtain ⟨od2, IB, _⟩ := O2.look
    obtain ⟨m, hF⟩ := I.fr
    have c1 := hC C1 oc1
    have c2 := hC C2 oc2
    exact ne_two hu hF I.ok.mod.kin IA IB (hS _ _ oc1 oc2) c1.ne c1.ob c2.ne c2.ob c1.eq c2.eq c1.fn
      (run_g (t := fun b => !b) (R := fun b M => P (.bl (!b)) M) (A' := X.A.in1) hgd hr.in1 rfl F hb I ok (.obj _) (.obj _) (show RelV (V.ref a) (Value.ref a) from rfl) (show RelV (V.ref b) (Value.ref b) from rfl) g1 fun b W' p f' k' => k0 (.bl (!b)) W' _ p f' k' (.bl _))
      (run_g (t := fun b => !b) (R := fun b M => P (.bl (!b)) M) (A' := X.A.in1) hgd hr.in1 rfl F hb I ok (.obj _) (.obj _) (show RelV (V.ref b) (Value.ref b) from rfl) (show RelV (V.ref a) (Value.ref a) from rfl) g2 fun b W' p f' k' => k0 (.bl (!b)) W' _ p f' k' (.bl _))
  · exact od_ne hr.units pins s σ W.H x y v u Q I rx ry ⟨W, dx, dy, P, rfl, ok, r1, r2, gg, k0⟩
/-- isinstance(x, an own class), x an instance or a value of another kind -/
def isiJ (okC : Addr → Prop) (b : Bool) (c : V) : GN := fun ds M P => match ds with
  | [d, .obj c'] => c' = c ∧ ((∃ C fs, InsM okC M d C fs ∧ P (.bl b) M) ∨ (d.known = true ∧ P (.bl false) M))
  | _ => False
theorem cd_isiJ {b : Bool} {c : V} {u : Value} (hcl : ClsV c u) (hC : ∀ C, okC C → IsC X.K C ∧ PySem.W.kitOne X.K (.ref C) u = some b) (hT : ∀ n ∈ tyAll, PySem.W.kitOne X.K (.type n) u = some false) : CallD X (.builtin "isinstance") (isiJ okC b c) := by
  intro pins s σ H xs us Q I r h
  obtain ⟨W, ds, P, rfl, ok, rs, g, k⟩ := h
  unfold isiJ at g
  split at g
  · rename_i d c'
    obtain ⟨rfl, g⟩ := g
    rcases g with g | ⟨hk, p⟩
    · exact cd_isiI hcl hC pins s σ W.H xs us Q I r ⟨W, _, P, rfl, ok, rs, ⟨rfl, .inl g⟩, k⟩
    · obtain ⟨v0, v1, rfl, q0, q1⟩ := rvs2 rs
      cases q1
      exact call_isi pins s σ W.H _ us Q I r ⟨_, _, _, _, _, rfl, hcl, tyName_of q0 hk, hT _ (ty_all hk), k.now ok (.bl _) p⟩
  · exact g.elim
end
end RS
set_option Elab.async false
set_option linter.all false
set_option maxRecDepth 100000
/-! The world of a law about several boards: the deck, the boards, lists of the law's own. -/
namespace RS
open PySem PySem.Spec PyProof.Rows L2
structure BD where
  C : Addr
  a : Addr
  F : List Addr
  R : List (List Int)
  eds : List D
  lim : Option (Int × Int)
structure LB (okC : Addr → Prop) (gk : Addr → DSpX) (d l : Addr) (M : Mem) (n : Int) (bs : List BD) (os : List (Addr × List D)) : Prop where
  bd : ∀ b ∈ bs, BoardZ okC gk b.C M b.a b.F b.R b.eds b.lim
  bap : ∀ b ∈ bs, d ∉ b.F ∧ l ∉ b.F
  bb : bs.Pairwise fun b c => ∀ x, x ∈ b.F → x ∈ c.F → False
  dk : DeckM M d l n
  own : ∀ p ∈ os, M p.1 = some (.dl p.2)
  out : ∀ p ∈ os, (∀ b ∈ bs, p.1 ∉ b.F) ∧ p.1 ≠ d ∧ p.1 ≠ l
  nd : (os.map (·.1)).Nodup
section
variable {okC : Addr → Prop} {gk : Addr → DSpX} {d l : Addr} {M M' : Mem} {n n' : Int} {bs pre post : List BD} {os os1 os2 : List (Addr × List D)} {b b' : BD} {L : Addr} {xs ys : List D}
theorem LB.draw (w : LB okC gk d l M n bs os) (D : DeckM M' d l n') (k : KeepM d l M M') : LB okC gk d l M' n' bs os :=
  ⟨fun b hb => (w.bd b hb).keep k (w.bap b hb).1 (w.bap b hb).2, w.bap, w.bb, D, fun p hp => k _ _ (w.out p hp).2.1 (w.out p hp).2.2 (w.own p hp), w.out, w.nd⟩
theorem LB.sub (w : LB okC gk d l M n bs os) (s : Sub M M') : LB okC gk d l M' n bs os :=
  ⟨fun b hb => (w.bd b hb).all s, w.bap, w.bb, deck_all w.dk s, fun p hp => s _ _ (w.own p hp), w.out, w.nd⟩
/-- one of the boards has changed -/
theorem LB.did (w : LB okC gk d l M n (pre ++ b :: post) os) (B : BoardF b'.C M' b'.a b'.F b'.R b'.eds b'.lim) (hC : b'.C = b.C) (hl : b'.lim = b.lim) (u : UpdF b.F M M') (nf : NewF b.F b'.F M) : LB okC gk d l M' n (pre ++ b' :: post) os := by
  have hb : b ∈ pre ++ b :: post := by simp
  have off : ∀ c : BD, (c ∈ pre ∨ c ∈ post) → ∀ x, x ∈ c.F → x ∉ b.F := by
    intro c hc x hx hxb
    have p := w.bb
    rw [List.pairwise_append, List.pairwise_cons] at p
    rcases hc with hc | hc
    · exact p.2.2 c hc b List.mem_cons_self x hx hxb
    · exact p.2.1.1 c hc x hxb hx
  have mem : ∀ c : BD, (c ∈ pre ∨ c ∈ post) → c ∈ pre ++ b :: post := fun c hc => by
    rcases hc with hc | hc
    · exact List.mem_append_left _ hc
    · exact List.mem_append_right _ (List.mem_cons_of_mem _ hc)
  have off' : ∀ c : BD, (c ∈ pre ∨ c ∈ post) → ∀ x, x ∈ c.F → x ∉ b'.F := fun c hc x hx => by
    obtain ⟨o, e⟩ := (w.bd c (mem c hc)).b.there hx
    exact nf.out e (off c hc x hx)
  have cs : ∀ c : BD, c ∈ pre ++ b' :: post → c = b' ∨ (c ∈ pre ∨ c ∈ post) := fun c hc => by
    rcases List.mem_append.mp hc with h | h
    · exact .inr (.inl h)
    · rcases List.mem_cons.mp h with h | h
      · exact .inl h
      · exact .inr (.inr h)
  have kz := (w.bd b hb).kp
  have oz := (w.bd b hb).oc
  obtain ⟨⟨o1, h1⟩, ⟨o2, h2⟩⟩ := deck_there w.dk
  refine ⟨fun c hc => ?_, fun c hc => ?_, ?_, deck_out w.dk u (w.bap b hb).1 (w.bap b hb).2, fun p hp => u _ _ ((w.out p hp).1 b hb) (w.own p hp), fun p hp => ⟨fun c hc => ?_, (w.out p hp).2⟩, w.nd⟩
  · rcases cs c hc with rfl | h
    · exact ⟨B, by rw [hC]; exact oz, by rw [hC, hl]; exact kz⟩
    · have z := w.bd c (mem c h)
      exact ⟨z.b.upd fun x hx o e => u x o (off c h x hx) e, z.oc, z.kp⟩
  · rcases cs c hc with rfl | h
    · exact ⟨nf.out h1 (w.bap b hb).1, nf.out h2 (w.bap b hb).2⟩
    · exact w.bap c (mem c h)
  · have p := w.bb
    rw [List.pairwise_append, List.pairwise_cons] at p ⊢
    refine ⟨p.1, ⟨fun c hc x hx hxc => off' c (.inr hc) x hxc hx, p.2.1.2⟩, fun c hc e he x hx hxe => ?_⟩
    rcases List.mem_cons.mp he with rfl | he
    · exact off' c (.inl hc) x hx hxe
    · exact p.2.2 c hc e (List.mem_cons_of_mem _ he) x hx hxe
  · rcases cs c hc with rfl | h
    · exact nf.out (w.own p hp) ((w.out p hp).1 b hb)
    · exact (w.out p hp).1 c (mem c h)
/-- one more board -/
theorem LB.newB (w : LB okC gk d l M n bs os) (z : BoardZ okC gk b.C M' b.a b.F b.R b.eds b.lim) (up : ∀ x o, M x = some o → M' x = some o ∧ x ∉ b.F) : LB okC gk d l M' n (b :: bs) os := by
  have w' := w.sub (M' := M') fun x o e => (up x o e).1
  obtain ⟨⟨o1, h1⟩, ⟨o2, h2⟩⟩ := deck_there w.dk
  refine ⟨fun c hc => ?_, fun c hc => ?_, List.pairwise_cons.mpr ⟨fun c hc x hx hxc => ?_, w.bb⟩, w'.dk, w'.own, fun p hp => ⟨fun c hc => ?_, (w.out p hp).2⟩, w.nd⟩
  · rcases List.mem_cons.mp hc with rfl | hc
    · exact z
    · exact w'.bd c hc
  · rcases List.mem_cons.mp hc with rfl | hc
    · exact ⟨(up _ _ h1).2, (up _ _ h2).2⟩
    · exact w.bap c hc
  · obtain ⟨o, e⟩ := (w.bd c hc).b.there hxc
    exact (up _ _ e).2 hx
  · rcases List.mem_cons.mp hc with rfl | hc
    · exact (up _ _ (w.own p hp)).2
    · exact (w.out p hp).1 c hc
/-- a list of one's own is another one now -/
theorem LB.set (w : LB okC gk d l M n bs (os1 ++ (L, xs) :: os2)) (ys : List D) : LB okC gk d l (updM M L (.dl ys)) n bs (os1 ++ (L, ys) :: os2) := by
  have hL := w.out (L, xs) (by simp)
  have nd := w.nd
  rw [List.map_append, List.map_cons] at nd
  have n1 : L ∉ os1.map (·.1) ∧ L ∉ os2.map (·.1) := by
    rw [List.nodup_append] at nd
    obtain ⟨_, a2, a3⟩ := nd
    exact ⟨fun z => a3 _ z _ List.mem_cons_self rfl, (List.nodup_cons.mp a2).1⟩
  refine ⟨fun b hb => ⟨boardF_upd (w.bd b hb).b (hL.1 b hb), (w.bd b hb).oc, (w.bd b hb).kp⟩, w.bap, w.bb, deckZ_upd w.dk hL.2.1 hL.2.2, fun p hp => ?_, fun p hp => ?_, by rw [List.map_append, List.map_cons]; exact nd⟩
  · rcases List.mem_append.mp hp with h | h
    · have ne : p.1 ≠ L := fun z => n1.1 (z ▸ List.mem_map_of_mem h)
      rw [updM_ne ne]
      exact w.own p (List.mem_append_left _ h)
    · rcases List.mem_cons.mp h with rfl | h
      · exact updM_same
      · have ne : p.1 ≠ L := fun z => n1.2 (z ▸ List.mem_map_of_mem h)
        rw [updM_ne ne]
        exact w.own p (List.mem_append_right _ (List.mem_cons_of_mem _ h))
  · rcases List.mem_append.mp hp with h | h
    · exact w.out p (List.mem_append_left _ h)
    · rcases List.mem_cons.mp h with rfl | h
      · exact hL
      · exact w.out p (List.mem_append_right _ (List.mem_cons_of_mem _ h))
/-- one more list of one's own -/
theorem LB.new (w : LB okC gk d l M n bs os) (h : M L = none) (ys : List D) : LB okC gk d l (updM M L (.dl ys)) n bs ((L, ys) :: os) := by
  have off : ∀ {x : Addr} {o : MO}, M x = some o → x ≠ L := fun {x o} e z => by rw [z, h] at e; cases e
  obtain ⟨⟨o1, h1⟩, ⟨o2, h2⟩⟩ := deck_there w.dk
  have w' := w.sub (M' := updM M L (.dl ys)) fun x o e => by rw [updM_ne (off e)]; exact e
  refine ⟨w'.bd, w.bap, w.bb, w'.dk, fun p hp => ?_, fun p hp => ?_, ?_⟩
  · rcases List.mem_cons.mp hp with rfl | hp
    · exact updM_same
    · exact w'.own p hp
  · rcases List.mem_cons.mp hp with rfl | hp
    · exact ⟨fun b hb z => by obtain ⟨o, e⟩ := (w.bd b hb).b.there z; exact off e rfl, fun z => off h1 z.symm, fun z => off h2 z.symm⟩
    · exact w.out p hp
  · rw [List.map_cons, List.nodup_cons]
    refine ⟨fun z => ?_, w.nd⟩
    obtain ⟨p, hp, e⟩ := List.mem_map.mp z
    exact off (w.own p hp) e
theorem LB.at0 {q : Addr × List D} (w : LB okC gk d l M n bs (q :: os)) : M q.1 = some (.dl q.2) := w.own q List.mem_cons_self
theorem LB.set0 (w : LB okC gk d l M n bs ((L, xs) :: os)) (ys : List D) : LB okC gk d l (updM M L (.dl ys)) n bs ((L, ys) :: os) := LB.set (os1 := []) w ys
theorem LB.start (D : DeckM M d l n) : LB okC gk d l M n [] [] := ⟨(fun _ h => nomatch h), (fun _ h => nomatch h), List.Pairwise.nil, D, (fun _ h => nomatch h), (fun _ h => nomatch h), List.Pairwise.nil⟩
theorem LB.b0 (w : LB okC gk d l M n (b :: bs) os) : BoardZ okC gk b.C M b.a b.F b.R b.eds b.lim := w.bd b List.mem_cons_self
theorem LB.b1 (w : LB okC gk d l M n (b' :: b :: bs) os) : BoardZ okC gk b.C M b.a b.F b.R b.eds b.lim := w.bd b (List.mem_cons_of_mem _ List.mem_cons_self)
theorem LB.did0 (w : LB okC gk d l M n (b :: bs) os) {F' : List Addr} {R' : List (List Int)} {e' : List D} (B : BoardF b.C M' b.a F' R' e' b.lim) (u : UpdF b.F M M') (nf : NewF b.F F' M) : LB okC gk d l M' n (⟨b.C, b.a, F', R', e', b.lim⟩ :: bs) os := LB.did (pre := []) w B rfl rfl u nf
theorem LB.swap (w : LB okC gk d l M n (b :: b' :: bs) os) : LB okC gk d l M n (b' :: b :: bs) os := by
  refine ⟨fun c hc => w.bd c ?_, fun c hc => w.bap c ?_, ?_, w.dk, w.own, fun p hp => ⟨fun c hc => (w.out p hp).1 c ?_, (w.out p hp).2⟩, w.nd⟩
  · exact (List.Perm.swap b b' bs).mem_iff.mp hc
  · exact (List.Perm.swap b b' bs).mem_iff.mp hc
  · have p := w.bb
    rw [List.pairwise_cons, List.pairwise_cons] at p ⊢
    refine ⟨fun c hc x hx hxc => ?_, fun c hc => p.1 c (List.mem_cons_of_mem _ hc), p.2.2⟩
    rcases List.mem_cons.mp hc with rfl | hc
    · exact p.1 b' List.mem_cons_self x hxc hx
    · exact p.2.1 c hc x hx hxc
  · exact (List.Perm.swap b b' bs).mem_iff.mp hc
end
/-- keep of either class -/
theorem keepOk_pair {okC : Addr → Prop} {cB cC : Addr} (ne : cB ≠ cC) (oc : okC cB) : KeepOk (fun C => if C = cC then gC_CalmBoard_keep cC else gZ_Board_keep okC) cB none := by
  rintro ds M P PX ⟨a, F, rings, edits, e, hs, rfl, b, hl, ok, q⟩
  show (if cB = cC then gC_CalmBoard_keep cC else gZ_Board_keep okC) _ M P PX
  rw [if_neg ne]
  exact ⟨cB, a, F, rings, edits, none, e, hs, rfl, b, oc, hl, ok, q⟩
theorem keepOk_calm {okC : Addr → Prop} {cC : Addr} {p : Int × Int} : KeepOk (fun C => if C = cC then gC_CalmBoard_keep cC else gZ_Board_keep okC) cC (some p) := by
  rintro ds M P PX ⟨a, F, rings, edits, e, hs, rfl, b, hl, ok, q⟩
  show (if cC = cC then gC_CalmBoard_keep cC else gZ_Board_keep okC) _ M P PX
  rw [if_pos rfl]
  exact ⟨a, F, rings, edits, p, e, hs, rfl, b, hl, ok, q⟩
/-- a new calm board -/
theorem mkC {cC a dx : Addr} {M : Mem} {gs : List Int} {t u : Int} {Q : Mem → Prop} {PX : DXK} (na : M a = none) (ok : RingOk gs) (h1 : isTolZ (.int t) = true) (h2 : isTurZ (.int u) = true) (h3 : leastTurns gs t ≤ u) (h : ∀ F M', BoardF cC M' a F [gs] [] (some (t, u)) → (∀ b o, M b = some o → M' b = some o ∧ b ∉ F) → Q M') :
    gC_CalmBoard___init__ cC [.obj (.ref a), ringD gs, .int t, .int u] (updM M a (.ins cC dx [])) (fun r M2 => r = .non ∧ Q M2) PX := by
  refine ⟨a, dx, gs, .int t, .int u, rfl, updM_same, ok, rfl, rfl, ?_⟩
  have e : madeR gs (.int t) (.int u) = .ok gs := by
    unfold madeR
    rw [h1, h2]
    show calmR (some (t, u)) gs = _
    simp only [calmR]
    rw [if_neg (by show ¬ u < leastTurns gs t; omega)]
  rw [e]
  intro M' F b u nf
  refine ⟨rfl, h F M' b fun x o hx => ?_⟩
  have xa : x ≠ a := fun z => by rw [z, na] at hx; cases hx
  have hx' : updM M a (.ins cC dx []) x = some o := by rw [updM_ne xa]; exact hx
  refine ⟨u x o (fun z => xa (List.mem_singleton.mp z)) hx', fun z => ?_⟩
  rcases nf x z with y | y
  · exact xa (List.mem_singleton.mp y)
  · rw [hx'] at y
    cases y
end RS
set_option Elab.async false
set_option linter.all false
set_option maxRecDepth 100000
/-! Written lists of values, one of which is drawn. -/
namespace RS
open PySem PySem.Spec PyProof.Rows L2
end RS
set_option Elab.async false
set_option linter.all false
set_option maxRecDepth 100000
/-! What is shown of a value is a text. -/
namespace RS
open PySem PySem.Spec PyProof.Rows L2
mutual
/-- its texts show as texts -/
def shoB : D → Bool
  | .non => true
  | .bl _ => true
  | .int _ => true
  | .str x => PyData.strOk (reprText x)
  | .tup ds => shosB ds
  | .lst ds => shosB ds
  | .obj _ => false
  | .dct [] => true
  | .dct (_ :: _) => false
  | .tpf _ => false
def shosB : List D → Bool
  | [] => true
  | d :: ds => shoB d && shosB ds
end
/-- lists of texts and booleans, compared -/
def Txt : List D → Prop
  | [] => True
  | .str x :: r => PyData.strOk x = true ∧ Txt r
  | .bl _ :: r => Txt r
  | .int _ :: r => Txt r
  | _ :: _ => False
theorem txt_ok : ∀ {ds : List D}, Txt ds → D.oks ds = true
  | [], _ => rfl
  | .str _ :: r, h => by simp only [D.oks, D.ok, Bool.true_and]; exact txt_ok h.2
  | .bl _ :: r, h => by simp only [D.oks, D.ok, Bool.true_and]; exact txt_ok h
  | .int _ :: r, h => by simp only [D.oks, D.ok, Bool.true_and]; exact txt_ok h
  | .non :: _, h | .tup _ :: _, h | .lst _ :: _, h | .obj _ :: _, h | .dct _ :: _, h | .tpf _ :: _, h => h.elim
theorem txt_lay : ∀ {ds : List D}, Txt ds → PyData.canLayAll0 (D.pys ds) = true ∧ PyData.depthAll (D.pys ds) ≤ 0
  | [], _ => by simp only [D.pys, PyData.canLayAll0, PyData.depthAll]; exact ⟨trivial, Nat.le_refl _⟩
  | .str _ :: r, h => by
    have := txt_lay h.2
    simp only [D.pys, D.py, PyData.canLayAll0, PyData.canLay0, PyData.depthAll, PyData.depth, Bool.and_eq_true]
    exact ⟨⟨h.1, this.1⟩, by omega⟩
  | .bl _ :: r, h => by
    have := txt_lay (ds := r) h
    simp only [D.pys, D.py, PyData.canLayAll0, PyData.canLay0, PyData.depthAll, PyData.depth, Bool.and_eq_true]
    exact ⟨⟨trivial, this.1⟩, by omega⟩
  | .int _ :: r, h => by
    have := txt_lay (ds := r) h
    simp only [D.pys, D.py, PyData.canLayAll0, PyData.canLay0, PyData.depthAll, PyData.depth, Bool.and_eq_true]
    exact ⟨⟨trivial, this.1⟩, by omega⟩
  | .non :: _, h | .tup _ :: _, h | .lst _ :: _, h | .obj _ :: _, h | .dct _ :: _, h | .tpf _ :: _, h => h.elim
theorem fit_txt {ds : List D} (h : Txt ds) : (D.lst ds).fit := by
  refine ⟨by simp only [D.ok]; exact txt_ok h, ?_⟩
  have := txt_lay h
  simp only [D.py, SeqAt.shaped, PyData.canLay0, PyData.depth, Bool.and_eq_true, decide_eq_true_eq]
  exact ⟨this.1, by omega⟩
end RS
set_option Elab.async false
set_option linter.all false
set_option maxRecDepth 100000
/-! A value compared with itself; odd values of a law. -/
namespace RS
open PySem PySem.Spec PyProof.Rows L2
theorem neD_self {d : D} {M : Mem} {P : DK} (h : d.fit) (p : P (.bl false) M) : neD d d M P := by
  have e : PyData.eqv d.py d.py = true := eqvD_self _ h.1
  cases d with
  | int i => show P (.bl (!decide (i = i))) M; rw [decide_eq_true rfl]; exact p
  | str x => show P (.bl (!decide (x = x))) M; rw [decide_eq_true rfl]; exact p
  | non => exact ⟨h, h, by rw [e]; exact p⟩
  | bl b => exact ⟨h, h, by rw [e]; exact p⟩
  | tup xs => exact ⟨h, h, by rw [e]; exact p⟩
  | lst xs => exact ⟨h, h, by rw [e]; exact p⟩
  | obj v => exact ⟨h, h, by rw [e]; exact p⟩
  | dct xs => exact ⟨h, h, by rw [e]; exact p⟩
  | tpf xs => exact ⟨h, h, by rw [e]; exact p⟩
theorem eqD_self {d : D} {M : Mem} {P : DK} (h : d.fit) (p : P (.bl true) M) : eqD d d M P := by
  have e : PyData.eqv d.py d.py = true := eqvD_self _ h.1
  cases d with
  | int i => show P (.bl (decide (i = i))) M; rw [decide_eq_true rfl]; exact p
  | str x => show P (.bl (decide (x = x))) M; rw [decide_eq_true rfl]; exact p
  | non => exact ⟨h, h, by rw [e]; exact p⟩
  | bl b => exact ⟨h, h, by rw [e]; exact p⟩
  | tup xs => exact ⟨h, h, by rw [e]; exact p⟩
  | lst xs => exact ⟨h, h, by rw [e]; exact p⟩
  | obj v => exact ⟨h, h, by rw [e]; exact p⟩
  | dct xs => exact ⟨h, h, by rw [e]; exact p⟩
  | tpf xs => exact ⟨h, h, by rw [e]; exact p⟩
/-- an odd value: any that a law has -/
structure Odd (d : D) : Prop where
  kn : d.known = true
  vl : Val 1000 20 d
  sho : shoB d = true
theorem Odd.fine {d : D} (o : Odd d) : d.fineD := o.vl.fine (by decide) (by decide)
end RS
set_option Elab.async false
set_option linter.all false
set_option maxRecDepth 100000
namespace R61
open PySem PySem.Spec PyProof.Rows L2 RS
/-- two boards, or a board and a value of another kind -/
def gE_Board___eq__ (okC : Addr → Prop) : DSp := fun ds M P => gC_Board___eq__ okC ds M P ∨ ∃ (C a : Addr) (F : List Addr) (R : List (List Int)) (eds : List D) (l : Option (Int × Int)) (d : D), ds = [.obj (.ref a), d] ∧ BoardF C M a F R eds l ∧ okC C ∧ d.known = true ∧ P (.bl false) M
def limOf (b : Bool) : Option (Int × Int) := if b = true then some (0, 24) else none
def clsOf (cB cC : Addr) (b : Bool) : Addr := if b = true then cC else cB
def g__law_new (okC : Addr → Prop) (gk : Addr → DSpX) (cBoard cCalmBoard : Addr) : DSp := fun ds M P => ∃ (hs : List Int) (b : Bool), ds = [ringD hs, .bl b] ∧ RingOk hs ∧ ∀ a F M', BoardZ okC gk (clsOf cBoard cCalmBoard b) M' a F [hs] [] (limOf b) → (∀ x o, M x = some o → M' x = some o ∧ x ∉ F) → P (.obj (.ref a)) M'
/-- one flag of eighteen is up -/
def hits (j : Nat) : List D := [0, 1, 2, 3, 4, 5, 6, 7, 8, 9, 10, 11, 12, 13, 14, 15, 16, 17].map fun i : Int => .bl (decide (i = (j : Nat)))
def g__law_flags (exs : List Addr) : DSp := fun ds M P => ∃ (a : Addr) (d : Option Addr) (j : Nat) (c : Addr), ds = [.obj (.ref a)] ∧ j < 18 ∧ exs[j]? = some c ∧ M a = some (.raw (exv a (.ref c) d)) ∧ XdM M d ∧ P (.lst (hits j)) M
def g__law_errors_right : DSp := fun ds M P => ∃ v : D, ds = [v] ∧ v.known = true ∧ v.fineD ∧ PyData.strOk v.py.shown = true ∧ ∀ M', Sub M M' → P (.bl true) M'
def g__law_pairs_right : DSp := fun ds M P => ∃ hs hs2 : List Int, ds = [ringD hs, ringD hs2] ∧ RingOk hs ∧ RingOk hs2 ∧ hs.length ≤ 12 ∧ hs2.length ≤ 12 ∧ ∀ M', Sub M M' → P (.bl true) M'
def bs_BadEdit : List Bool := [false, false, false, false, false, false, false, false, false, false, false, false, true, false, false, false, false, false, false]
def bs_BadEdits : List Bool := [false, false, false, false, true, false, false, false, false, false, false, false, false, false, false, false, false, false, false]
def bs_BadHeight : List Bool := [false, false, false, false, false, false, false, false, true, false, false, false, false, false, false, false, false, false, false]
def bs_BadRing : List Bool := [false, false, false, false, false, false, false, true, false, false, false, false, false, false, false, false, false, false, false]
def bs_BadText : List Bool := [false, false, false, false, false, false, false, false, false, false, false, false, false, false, true, false, false, false, false]
def bs_BadTolerance : List Bool := [false, false, false, false, false, false, false, false, false, true, false, false, false, false, false, false, false, false, false]
def bs_BadTurns : List Bool := [false, false, false, false, false, false, false, false, false, false, true, false, false, false, false, false, false, false, false]
def bs_LastPlace : List Bool := [true, false, false, false, false, false, false, false, false, false, false, false, false, false, false, false, false, false, false]
def bs_LookupError : List Bool := [false, false, false, false, false, false, false, false, false, false, false, false, false, false, false, true, true, true, false]
def bs_NoIndex : List Bool := [false, false, false, false, false, false, false, false, false, false, false, false, false, false, false, true, false, false, false]
def bs_NoPlace : List Bool := [false, false, false, false, false, false, false, false, false, false, false, false, false, false, false, false, true, false, false]
def bs_NoVersion : List Bool := [false, false, false, false, false, false, false, false, false, false, false, false, false, false, false, false, false, true, false]
def bs_NotDistinct : List Bool := [false, false, false, false, false, true, false, false, false, false, false, false, false, false, false, false, false, false, false]
def bs_NothingToUndo : List Bool := [false, false, false, true, false, false, false, false, false, false, false, false, false, false, false, false, false, false, false]
def bs_OutOfRange : List Bool := [false, true, false, false, false, false, false, false, false, false, false, false, false, false, false, false, false, false, false]
def bs_Rejected : List Bool := [false, false, false, false, false, false, false, false, false, false, false, false, false, true, false, false, false, false, false]
def bs_Restless : List Bool := [false, false, false, false, false, false, false, false, false, false, false, true, false, false, false, false, false, false, false]
def bs_RingError : List Bool := [true, true, true, true, true, true, true, true, true, true, true, true, true, true, true, false, false, false, true]
def bs_TooLong : List Bool := [false, false, false, false, false, false, true, false, false, false, false, false, false, false, false, false, false, false, false]
def bs_TooManyEdits : List Bool := [false, false, true, false, false, false, false, false, false, false, false, false, false, false, false, false, false, false, false]
def bs_ValueError : List Bool := [true, true, true, true, true, true, true, true, true, true, true, true, true, true, true, false, false, false, true]
def wE_Board___eq__ (okC : Addr → Prop) (cBoard : Addr) : DS := wRet (wAndV (wN (isiJ okC true (.ref cBoard)) (wCons (wName 1) (wCons (wC (.obj (.ref cBoard))) (wNil)))) (wAndV (wOp eqD (wOp ixD (wFld okC (wName 0) "states") (wUn negD (wC (.int 1)))) (wOp ixD (wFld okC (wName 1) "states") (wUn negD (wC (.int 1))))) (wOp eqD (wFld okC (wName 0) "limits") (wFld okC (wName 1) "limits"))))
def w__law_flags (exs : List Addr) : DS := wSeq (wSet 1 (wN gLstN (wCons (wN (isV exs bs_LastPlace (.ref (exA exs 0))) (wCons (wName 0) (wCons (wC (.obj (.ref (exA exs 0)))) (wNil)))) (wCons (wN (isV exs bs_OutOfRange (.ref (exA exs 1))) (wCons (wName 0) (wCons (wC (.obj (.ref (exA exs 1)))) (wNil)))) (wCons (wN (isV exs bs_TooManyEdits (.ref (exA exs 2))) (wCons (wName 0) (wCons (wC (.obj (.ref (exA exs 2)))) (wNil)))) (wNil)))))) (wSeq (wSet 1 (wOp addD (wName 1) (wN gLstN (wCons (wN (isV exs bs_NothingToUndo (.ref (exA exs 3))) (wCons (wName 0) (wCons (wC (.obj (.ref (exA exs 3)))) (wNil)))) (wCons (wN (isV exs bs_BadEdits (.ref (exA exs 4))) (wCons (wName 0) (wCons (wC (.obj (.ref (exA exs 4)))) (wNil)))) (wCons (wN (isV exs bs_NotDistinct (.ref (exA exs 5))) (wCons (wName 0) (wCons (wC (.obj (.ref (exA exs 5)))) (wNil)))) (wNil))))))) (wSeq (wSet 1 (wOp addD (wName 1) (wN gLstN (wCons (wN (isV exs bs_TooLong (.ref (exA exs 6))) (wCons (wName 0) (wCons (wC (.obj (.ref (exA exs 6)))) (wNil)))) (wCons (wN (isV exs bs_BadRing (.ref (exA exs 7))) (wCons (wName 0) (wCons (wC (.obj (.ref (exA exs 7)))) (wNil)))) (wCons (wN (isV exs bs_BadHeight (.ref (exA exs 8))) (wCons (wName 0) (wCons (wC (.obj (.ref (exA exs 8)))) (wNil)))) (wNil))))))) (wSeq (wSet 1 (wOp addD (wName 1) (wN gLstN (wCons (wN (isV exs bs_BadTolerance (.ref (exA exs 9))) (wCons (wName 0) (wCons (wC (.obj (.ref (exA exs 9)))) (wNil)))) (wCons (wN (isV exs bs_BadTurns (.ref (exA exs 10))) (wCons (wName 0) (wCons (wC (.obj (.ref (exA exs 10)))) (wNil)))) (wCons (wN (isV exs bs_Restless (.ref (exA exs 11))) (wCons (wName 0) (wCons (wC (.obj (.ref (exA exs 11)))) (wNil)))) (wNil))))))) (wSeq (wSet 1 (wOp addD (wName 1) (wN gLstN (wCons (wN (isV exs bs_BadEdit (.ref (exA exs 12))) (wCons (wName 0) (wCons (wC (.obj (.ref (exA exs 12)))) (wNil)))) (wCons (wN (isV exs bs_Rejected (.ref (exA exs 13))) (wCons (wName 0) (wCons (wC (.obj (.ref (exA exs 13)))) (wNil)))) (wCons (wN (isV exs bs_BadText (.ref (exA exs 14))) (wCons (wName 0) (wCons (wC (.obj (.ref (exA exs 14)))) (wNil)))) (wCons (wN (isV exs bs_NoIndex (.ref (exA exs 15))) (wCons (wName 0) (wCons (wC (.obj (.ref (exA exs 15)))) (wNil)))) (wNil)))))))) (wRet (wOp addD (wName 1) (wN gLstN (wCons (wN (isV exs bs_NoPlace (.ref (exA exs 16))) (wCons (wName 0) (wCons (wC (.obj (.ref (exA exs 16)))) (wNil)))) (wCons (wN (isV exs bs_NoVersion (.ref (exA exs 17))) (wCons (wName 0) (wCons (wC (.obj (.ref (exA exs 17)))) (wNil)))) (wNil))))))))))
def w__law_errors_right_b0 (exs : List Addr) : DS := wSeq (wSet 3 (wN gLstN (wCons (wN (isV exs bs_RingError (.ref (exA exs 18))) (wCons (wOp ixD (wName 1) (wName 2)) (wCons (wC (.obj (.ref (exA exs 18)))) (wNil)))) (wCons (wN (isV exs bs_ValueError (.ty "ValueError")) (wCons (wOp ixD (wName 1) (wName 2)) (wCons (wC (.obj (.ty "ValueError"))) (wNil)))) (wCons (wN (isV exs bs_LookupError (.ty "LookupError")) (wCons (wOp ixD (wName 1) (wName 2)) (wCons (wC (.obj (.ty "LookupError"))) (wNil)))) (wNil)))))) (wIf (wOrT (wCmpT neD (wN (g__law_flags exs) (wCons (wOp ixD (wName 1) (wName 2)) (wNil))) (wLc (wRng1 (wCons (wC (.int 18)) (wNil))) (Tg.nm 5) (wYes) (wOp eqD (wName 5) (wName 2)) [5])) (wCmpT neD (wName 3) (wN gLstN (wCons (wOp ltD (wName 2) (wC (.int 15))) (wCons (wOp ltD (wName 2) (wC (.int 15))) (wCons (wOp gtD (wName 2) (wC (.int 14))) (wNil))))))) (wRet (wC (.bl false))) (wNext))
def w__law_errors_right (exs : List Addr) : DS := wSeq (wSet 1 (wN gLstN (wCons (wMk0V (exA exs 0)) (wCons (wMk0V (exA exs 1)) (wCons (wMk0V (exA exs 2)) (wCons (wMk0V (exA exs 3)) (wCons (wMk0V (exA exs 4)) (wCons (wMk1V (exA exs 5) "height" (wName 0)) (wNil))))))))) (wSeq (wSet 1 (wOp addD (wName 1) (wN gLstN (wCons (wMk1V (exA exs 6) "bound" (wName 0)) (wCons (wMk1V (exA exs 7) "error" (wName 0)) (wCons (wMk1V (exA exs 8) "value" (wName 0)) (wCons (wMk1V (exA exs 9) "value" (wName 0)) (wCons (wMk1V (exA exs 10) "value" (wName 0)) (wNil))))))))) (wSeq (wSet 1 (wOp addD (wName 1) (wN gLstN (wCons (wMk1V (exA exs 11) "number" (wName 0)) (wCons (wMk1V (exA exs 12) "index" (wName 0)) (wCons (wMk1V (exA exs 13) "index" (wName 0)) (wCons (wMk1V (exA exs 14) "index" (wName 0)) (wCons (wMk1V (exA exs 15) "value" (wName 0)) (wNil))))))))) (wSeq (wSet 1 (wOp addD (wName 1) (wN gLstN (wCons (wMk1V (exA exs 16) "value" (wName 0)) (wCons (wMk1V (exA exs 17) "value" (wName 0)) (wNil)))))) (wSeq (wFor (wRng1 (wCons (wC (.int 18)) (wNil))) (Tg.nm 2) ((w__law_errors_right_b0 exs))) (wSeq (wSet 4 (wN gLstN (wCons (wFldV (exA exs 5) (wMk1V (exA exs 5) "height" (wName 0)) "height") (wCons (wFldV (exA exs 6) (wMk1V (exA exs 6) "bound" (wName 0)) "bound") (wCons (wFldV (exA exs 7) (wMk1V (exA exs 7) "error" (wName 0)) "error") (wCons (wFldV (exA exs 8) (wMk1V (exA exs 8) "value" (wName 0)) "value") (wNil))))))) (wSeq (wSet 4 (wOp addD (wName 4) (wN gLstN (wCons (wFldV (exA exs 9) (wMk1V (exA exs 9) "value" (wName 0)) "value") (wCons (wFldV (exA exs 10) (wMk1V (exA exs 10) "value" (wName 0)) "value") (wCons (wFldV (exA exs 11) (wMk1V (exA exs 11) "number" (wName 0)) "number") (wCons (wFldV (exA exs 12) (wMk1V (exA exs 12) "index" (wName 0)) "index") (wNil)))))))) (wSeq (wSet 4 (wOp addD (wName 4) (wN gLstN (wCons (wFldV (exA exs 13) (wMk1V (exA exs 13) "index" (wName 0)) "index") (wCons (wFldV (exA exs 14) (wMk1V (exA exs 14) "index" (wName 0)) "index") (wCons (wFldV (exA exs 15) (wMk1V (exA exs 15) "value" (wName 0)) "value") (wCons (wFldV (exA exs 16) (wMk1V (exA exs 16) "value" (wName 0)) "value") (wNil)))))))) (wRet (wOp eqD (wLc (wSeqI (wOp addD (wName 4) (wN gLstN (wCons (wFldV (exA exs 17) (wMk1V (exA exs 17) "value" (wName 0)) "value") (wNil))))) (Tg.nm 6) (wYes) (wN reprX (wCons (wName 6) (wNil))) [6]) (wOp mulD (wN gLstN (wCons (wN reprX (wCons (wName 0) (wNil))) (wNil))) (wC (.int 13))))))))))))
def w__law_new (okC : Addr → Prop) (cBoard : Addr) (cCalmBoard : Addr) : DS := wSeq (wIf (wTru (wName 1)) (wRet (wMak cCalmBoard (noX (gC_CalmBoard___init__ cCalmBoard)) (wCons (wName 0) (wCons (wC (.int 0)) (wCons (wC (.int 24)) (wNil)))))) (wNext)) (wRet (wMak cBoard (gZ_Board___init__ okC) (wCons (wName 0) (wNil))))
def w__law_pairs_right (okC : Addr → Prop) (cBoard : Addr) (cCalmBoard : Addr) : DS := wSeq (wAsg (wN gTupN (wCons (wN gLstN (wCons (wMak cBoard (gZ_Board___init__ okC) (wCons (wName 0) (wNil))) (wCons (wMak cBoard (gZ_Board___init__ okC) (wCons (wName 1) (wNil))) (wNil)))) (wCons (wN gLstN (wCons (wMak cCalmBoard (noX (gC_CalmBoard___init__ cCalmBoard)) (wCons (wName 0) (wCons (wC (.int 3)) (wCons (wC (.int 24)) (wNil))))) (wCons (wMak cCalmBoard (noX (gC_CalmBoard___init__ cCalmBoard)) (wCons (wName 1) (wCons (wC (.int 3)) (wCons (wC (.int 24)) (wNil))))) (wNil)))) (wNil)))) (Tg.tp [Tg.nm 2, Tg.nm 3])) (wSeq (wSet 4 (wN gLstN (wCons (wMak cCalmBoard (noX (gC_CalmBoard___init__ cCalmBoard)) (wCons (wName 0) (wCons (wC (.int 2)) (wCons (wC (.int 24)) (wNil))))) (wCons (wMak cCalmBoard (noX (gC_CalmBoard___init__ cCalmBoard)) (wCons (wName 0) (wCons (wC (.int 3)) (wCons (wC (.int 23)) (wNil))))) (wCons (wMak cCalmBoard (noX (gC_CalmBoard___init__ cCalmBoard)) (wCons (wName 0) (wCons (wC (.int 3)) (wCons (wC (.int 24)) (wNil))))) (wNil)))))) (wSeq (wSet 5 (wN gLstN (wCons (wOp (eqJ okC (gE_Board___eq__ okC)) (wOp ixD (wName 2) (wC (.int 0))) (wOp ixD (wName 2) (wC (.int 1)))) (wCons (wOp (eqJ okC (gE_Board___eq__ okC)) (wOp ixD (wName 3) (wC (.int 0))) (wOp ixD (wName 3) (wC (.int 1)))) (wCons (wOp (eqJ okC (gE_Board___eq__ okC)) (wOp ixD (wName 2) (wC (.int 0))) (wOp ixD (wName 3) (wC (.int 0)))) (wCons (wOp (eqJ okC (gE_Board___eq__ okC)) (wOp ixD (wName 3) (wC (.int 0))) (wOp ixD (wName 2) (wC (.int 0)))) (wNil))))))) (wSeq (wIf (wCmpT neD (wN reprX (wCons (wName 5) (wNil))) (wN reprX (wCons (wN gLstN (wCons (wOp eqD (wName 0) (wName 1)) (wCons (wOp eqD (wName 0) (wName 1)) (wCons (wC (.bl false)) (wCons (wC (.bl false)) (wNil)))))) (wNil)))) (wRet (wC (.bl false))) (wNext)) (wRet (wAndV (wOp eqD (wLc (wSeqI (wName 4)) (Tg.nm 6) (wYes) (wOp (eqJ okC (gE_Board___eq__ okC)) (wOp ixD (wName 3) (wC (.int 0))) (wName 6)) [6]) (wN gLstN (wCons (wC (.bl false)) (wCons (wC (.bl false)) (wCons (wC (.bl true)) (wNil)))))) (wOp (neJ okC (gE_Board___eq__ okC)) (wOp ixD (wName 3) (wC (.int 0))) (wOp ixD (wName 4) (wC (.int 0)))))))))
def w_law_b0 (okC : Addr → Prop) (gk : Addr → DSpX) (cBoard : Addr) (cCalmBoard : Addr) : DS := wSeq (wSet 8 (wN gDraw (wCons (wName 1) (wCons (wC (.int 2)) (wNil))))) (wSeq (wSet 9 (wN gEditE (wCons (wName 1) (wCons (wOp ixD (wName 6) (wName 8)) (wNil))))) (wSeq (wIf (wCmpT neD (wN (noX (gDoZ okC gk)) (wCons (wOp ixD (wName 5) (wName 8)) (wCons (wName 9) (wNil)))) (wLenI okC (fun _ => (gZ_Board___len__ okC)) (wOp ixD (wName 5) (wName 8)))) (wRet (wC (.bl false))) (wNext)) (wIf (wCmpT gtD (wN gDraw (wCons (wName 1) (wCons (wC (.int 3)) (wNil)))) (wC (.int 0))) (wStore (wN gAfterE (wCons (wOp ixD (wName 6) (wName 8)) (wCons (wName 9) (wNil)))) (wName 6) (wName 8)) (wIf (wCmpT neD (wMet okC "undo" (fun ds _ => ds) (fun C => noX ((fun _ => (gZ_Board_undo okC)) C)) (wOp ixD (wName 5) (wName 8)) (wNil) (wNil)) (wLenI okC (fun _ => (gZ_Board___len__ okC)) (wOp ixD (wName 5) (wName 8)))) (wRet (wC (.bl false))) (wNext)))))
def w_law_b1 (okC : Addr → Prop) (gk : Addr → DSpX) (cBoard : Addr) (cCalmBoard : Addr) : DS := wSeq (wFor (wRng1 (wCons (wN gDraw (wCons (wName 1) (wCons (wC (.int 13)) (wNil)))) (wNil))) (Tg.nm 7) ((w_law_b0 okC gk cBoard cCalmBoard))) (wSeq (wSet 10 (wOp eqD (wOp ixD (wName 6) (wC (.int 0))) (wOp ixD (wName 6) (wC (.int 1))))) (wSeq (wSet 11 (wN gLstN (wCons (wOp (eqJ okC (gE_Board___eq__ okC)) (wOp ixD (wName 5) (wC (.int 0))) (wOp ixD (wName 5) (wC (.int 1)))) (wCons (wOp (neJ okC (gE_Board___eq__ okC)) (wOp ixD (wName 5) (wC (.int 0))) (wOp ixD (wName 5) (wC (.int 1)))) (wCons (wMet okC "ring" (fun ds es => ds ++ es ++ [.non]) (fun C => noX ((fun _ => (gZ_Board_ring okC)) C)) (wOp ixD (wName 5) (wC (.int 0))) (wNil) (wNil)) (wCons (wMet okC "ring" (fun ds es => ds ++ es ++ [.non]) (fun C => noX ((fun _ => (gZ_Board_ring okC)) C)) (wOp ixD (wName 5) (wC (.int 1))) (wNil) (wNil)) (wNil))))))) (wSeq (wIf (wCmpT neD (wN reprX (wCons (wName 11) (wNil))) (wN reprX (wCons (wN gLstN (wCons (wName 10) (wCons (wNotV (wName 10)) (wCons (wOp ixD (wName 6) (wC (.int 0))) (wCons (wOp ixD (wName 6) (wC (.int 1))) (wNil)))))) (wNil)))) (wRet (wC (.bl false))) (wNext)) (wSeq (wSet 12 (wOp ixD (wN gLstN (wCons (wC .non) (wCons (wC (.int 5)) (wCons (wC (.str (Str.ofString "board"))) (wCons (wOp ixD (wName 6) (wC (.int 0))) (wCons (wN listD (wCons (wOp ixD (wName 6) (wC (.int 0))) (wNil))) (wCons (wN gTupN (wNil)) (wCons (wDct []) (wNil))))))))) (wN gDraw (wCons (wName 1) (wCons (wC (.int 7)) (wNil)))))) (wRet (wAndV (wOp (eqJ okC (gE_Board___eq__ okC)) (wN (g__law_new okC gk cBoard cCalmBoard) (wCons (wOp ixD (wName 6) (wC (.int 0))) (wCons (wName 4) (wNil)))) (wOp ixD (wName 5) (wC (.int 0)))) (wAndV (wOp (neJ okC (gE_Board___eq__ okC)) (wOp ixD (wName 5) (wC (.int 0))) (wName 12)) (wNotV (wOp (eqJ okC (gE_Board___eq__ okC)) (wOp ixD (wName 5) (wC (.int 0))) (wName 12))))))))))
def w_law (okC : Addr → Prop) (gk : Addr → DSpX) (cBoard : Addr) (cCalmBoard : Addr) : DS := wSeq (wIf (wNotT (wTru (wN g__law_errors_right (wCons (wOp ixD (wN gLstN (wCons (wC .non) (wCons (wC (.int 5)) (wCons (wC (.bl true)) (wCons (wC (.str (Str.ofString "a"))) (wCons (wN gTupN (wCons (wC (.int 1)) (wCons (wC (.str (Str.ofString "b"))) (wNil)))) (wCons (wN gLstN (wNil)) (wCons (wDct []) (wCons (wUn negD (wC (.int 1))) (wNil)))))))))) (wN gDraw (wCons (wName 1) (wCons (wC (.int 8)) (wNil))))) (wNil))))) (wRet (wC (.bl false))) (wNext)) (wSeq (wSet 2 (wN gRingE (wCons (wName 1) (wCons (wC (.int 11)) (wNil))))) (wSeq (wSet 3 (wOp ixD (wN gLstN (wCons (wName 2) (wCons (wOp addD (wSl (wName 2) (wPart (wC (.int 1))) (wNoPart)) (wSl (wName 2) (wNoPart) (wPart (wC (.int 1))))) (wCons (wOp addD (wName 2) (wSl (wName 2) (wNoPart) (wPart (wC (.int 1))))) (wNil))))) (wN gDraw (wCons (wName 1) (wCons (wC (.int 3)) (wNil)))))) (wSeq (wIf (wNotT (wTru (wN g__law_pairs_right (wCons (wName 2) (wCons (wName 3) (wNil)))))) (wRet (wC (.bl false))) (wNext)) (wSeq (wSet 4 (wOp eqD (wN gDraw (wCons (wName 1) (wCons (wC (.int 2)) (wNil)))) (wC (.int 0)))) (wSeq (wPar 5 6 (wCons (wN gLstN (wCons (wN (g__law_new okC gk cBoard cCalmBoard) (wCons (wName 2) (wCons (wName 4) (wNil)))) (wCons (wN (g__law_new okC gk cBoard cCalmBoard) (wCons (wName 3) (wCons (wName 4) (wNil)))) (wNil)))) (wCons (wObj (wLstO (wCons (wName 2) (wCons (wName 3) (wNil))))) (wNil)))) ((w_law_b1 okC gk cBoard cCalmBoard)))))))
end R61
set_option Elab.async false
set_option linter.all false
set_option maxRecDepth 100000
namespace R61
open PySem PySem.Spec PyProof.Rows L2 RS
/-! ### the text -/
def topS (i : Nat) : Stmt := PySem.Challenge.pw_ringswings_k61_board_equality_and_errors.main.body.getD i (.Pass ⟨0, 0, 0, 0⟩)
abbrev s_is_number : Stmt := topS 25
abbrev n_is_number : List Str := ["value"]
theorem sc_is_number : FnScope n_is_number ["value"] (defScope s_is_number) := ⟨rfl, rfl, rfl, by decide +kernel, rfl, by decide +kernel, by decide +kernel⟩
abbrev s_is_height : Stmt := topS 26
abbrev n_is_height : List Str := ["value"]
theorem sc_is_height : FnScope n_is_height ["value"] (defScope s_is_height) := ⟨rfl, rfl, rfl, by decide +kernel, rfl, by decide +kernel, by decide +kernel⟩
abbrev s_is_tolerance : Stmt := topS 27
abbrev n_is_tolerance : List Str := ["value"]
theorem sc_is_tolerance : FnScope n_is_tolerance ["value"] (defScope s_is_tolerance) := ⟨rfl, rfl, rfl, by decide +kernel, rfl, by decide +kernel, by decide +kernel⟩
abbrev s_ring_error : Stmt := topS 29
abbrev n_ring_error : List Str := ["value", "index", "item"]
theorem sc_ring_error : FnScope n_ring_error ["value"] (defScope s_ring_error) := ⟨rfl, rfl, rfl, by decide +kernel, rfl, by decide +kernel, by decide +kernel⟩
abbrev s_turning_places : Stmt := topS 30
abbrev n_turning_places : List Str := ["ring", "place"]
theorem sc_turning_places : FnScope n_turning_places ["ring"] (defScope s_turning_places) := ⟨rfl, rfl, rfl, by decide +kernel, rfl, by decide +kernel, by decide +kernel⟩
abbrev s_is_turn : Stmt := topS 31
abbrev n_is_turn : List Str := ["ring", "place", "height", "before"]
theorem sc_is_turn : FnScope n_is_turn ["ring", "place"] (defScope s_is_turn) := ⟨rfl, rfl, rfl, by decide +kernel, rfl, by decide +kernel, by decide +kernel⟩
abbrev s_next_other_height : Stmt := topS 32
abbrev n_next_other_height : List Str := ["ring", "place", "height"]
theorem sc_next_other_height : FnScope n_next_other_height ["ring", "place"] (defScope s_next_other_height) := ⟨rfl, rfl, rfl, by decide +kernel, rfl, by decide +kernel, by decide +kernel⟩
abbrev s_heights_after : Stmt := topS 33
abbrev n_heights_after : List Str := ["ring", "place"]
theorem sc_heights_after : FnScope n_heights_after ["ring", "place"] (defScope s_heights_after) := ⟨rfl, rfl, rfl, by decide +kernel, rfl, by decide +kernel, by decide +kernel⟩
abbrev s_swings_of : Stmt := topS 35
abbrev n_swings_of : List Str := ["ring", "valley", "peak"]
theorem sc_swings_of : FnScope n_swings_of ["ring"] (defScope s_swings_of) := ⟨rfl, rfl, rfl, by decide +kernel, rfl, by decide +kernel, by decide +kernel⟩
abbrev s_find_removal : Stmt := topS 36
abbrev n_find_removal : List Str := ["ring", "left", "pairs", "pair"]
theorem sc_find_removal : FnScope n_find_removal ["ring"] (defScope s_find_removal) := ⟨rfl, rfl, rfl, by decide +kernel, rfl, by decide +kernel, by decide +kernel⟩
abbrev s_flattest_pair : Stmt := topS 37
abbrev n_flattest_pair : List Str := ["ring", "left", "ranges", "at", "index", "turn"]
theorem sc_flattest_pair : FnScope n_flattest_pair ["ring", "left"] (defScope s_flattest_pair) := ⟨rfl, rfl, rfl, by decide +kernel, rfl, by decide +kernel, by decide +kernel⟩
abbrev s_valley_first : Stmt := topS 38
abbrev n_valley_first : List Str := ["ring", "turn", "neighbour"]
theorem sc_valley_first : FnScope n_valley_first ["ring", "turn", "neighbour"] (defScope s_valley_first) := ⟨rfl, rfl, rfl, by decide +kernel, rfl, by decide +kernel, by decide +kernel⟩
abbrev s_without_pair : Stmt := topS 39
abbrev n_without_pair : List Str := ["left", "pair", "turn"]
theorem sc_without_pair : FnScope n_without_pair ["left", "pair"] (defScope s_without_pair) := ⟨rfl, rfl, rfl, by decide +kernel, rfl, by decide +kernel, by decide +kernel⟩
abbrev s_set_height : Stmt := topS 41
abbrev n_set_height : List Str := ["ring", "place", "height"]
theorem sc_set_height : FnScope n_set_height ["ring", "place", "height"] (defScope s_set_height) := ⟨rfl, rfl, rfl, by decide +kernel, rfl, by decide +kernel, by decide +kernel⟩
abbrev s_insert_height : Stmt := topS 42
abbrev n_insert_height : List Str := ["ring", "place", "height"]
theorem sc_insert_height : FnScope n_insert_height ["ring", "place", "height"] (defScope s_insert_height) := ⟨rfl, rfl, rfl, by decide +kernel, rfl, by decide +kernel, by decide +kernel⟩
abbrev s_remove_place : Stmt := topS 43
abbrev n_remove_place : List Str := ["ring", "place"]
theorem sc_remove_place : FnScope n_remove_place ["ring", "place"] (defScope s_remove_place) := ⟨rfl, rfl, rfl, by decide +kernel, rfl, by decide +kernel, by decide +kernel⟩
abbrev s_swing_ranges : Stmt := topS 45
abbrev n_swing_ranges : List Str := ["ring", "low", "high"]
theorem sc_swing_ranges : FnScope n_swing_ranges ["ring"] (defScope s_swing_ranges) := ⟨rfl, rfl, rfl, by decide +kernel, rfl, by decide +kernel, by decide +kernel⟩
abbrev s_least_turns : Stmt := topS 46
abbrev n_least_turns : List Str := ["ring", "tolerance", "reach"]
theorem sc_least_turns : FnScope n_least_turns ["ring", "tolerance"] (defScope s_least_turns) := ⟨rfl, rfl, rfl, by decide +kernel, rfl, by decide +kernel, by decide +kernel⟩
abbrev s_check_place : Stmt := topS 50
abbrev n_check_place : List Str := ["value", "count"]
theorem sc_check_place : FnScope n_check_place ["value", "count"] (defScope s_check_place) := ⟨rfl, rfl, rfl, by decide +kernel, rfl, by decide +kernel, by decide +kernel⟩
abbrev s_check_height : Stmt := topS 51
abbrev n_check_height : List Str := ["value"]
theorem sc_check_height : FnScope n_check_height ["value"] (defScope s_check_height) := ⟨rfl, rfl, rfl, by decide +kernel, rfl, by decide +kernel, by decide +kernel⟩
abbrev s_check_tolerance : Stmt := topS 52
abbrev n_check_tolerance : List Str := ["value"]
theorem sc_check_tolerance : FnScope n_check_tolerance ["value"] (defScope s_check_tolerance) := ⟨rfl, rfl, rfl, by decide +kernel, rfl, by decide +kernel, by decide +kernel⟩
abbrev s__law_draw : Stmt := topS 55
abbrev n__law_draw : List Str := ["_law_deck_here", "_law_many", "_law_cell", "_law_place"]
theorem sc__law_draw : FnScope n__law_draw ["_law_deck_here", "_law_many"] (defScope s__law_draw) := ⟨rfl, rfl, rfl, by decide +kernel, rfl, by decide +kernel, by decide +kernel⟩
abbrev s__law_ring : Stmt := topS 56
abbrev n__law_ring : List Str := ["_law_deck_here", "_law_most", "_law_n", "_law_spread", "_law_base", "_law_found", "_law_k"]
theorem sc__law_ring : FnScope n__law_ring ["_law_deck_here", "_law_most"] (defScope s__law_ring) := ⟨rfl, rfl, rfl, by decide +kernel, rfl, by decide +kernel, by decide +kernel⟩
abbrev s__law_after : Stmt := topS 57
abbrev n__law_after : List Str := ["_law_ring_here", "_law_edit_here", "_law_place"]
theorem sc__law_after : FnScope n__law_after ["_law_ring_here", "_law_edit_here"] (defScope s__law_after) := ⟨rfl, rfl, rfl, by decide +kernel, rfl, by decide +kernel, by decide +kernel⟩
abbrev s__law_edit : Stmt := topS 58
abbrev n__law_edit : List Str := ["_law_deck_here", "_law_ring_here", "_law_height", "_law_way"]
theorem sc__law_edit : FnScope n__law_edit ["_law_deck_here", "_law_ring_here"] (defScope s__law_edit) := ⟨rfl, rfl, rfl, by decide +kernel, rfl, by decide +kernel, by decide +kernel⟩
abbrev s__law_do : Stmt := topS 59
abbrev n__law_do : List Str := ["_law_table", "_law_edit_here"]
theorem sc__law_do : FnScope n__law_do ["_law_table", "_law_edit_here"] (defScope s__law_do) := ⟨rfl, rfl, rfl, by decide +kernel, rfl, by decide +kernel, by decide +kernel⟩
abbrev s__law_flags : Stmt := topS 60
abbrev n__law_flags : List Str := ["_law_e", "_law_found"]
theorem sc__law_flags : FnScope n__law_flags ["_law_e"] (defScope s__law_flags) := ⟨rfl, rfl, rfl, by decide +kernel, rfl, by decide +kernel, by decide +kernel⟩
abbrev s__law_errors_right : Stmt := topS 61
abbrev n__law_errors_right : List Str := ["_law_value", "_law_some", "_law_k", "_law_bases", "_law_fields", "_law_j", "_law_field"]
theorem sc__law_errors_right : FnScope n__law_errors_right ["_law_value"] (defScope s__law_errors_right) := ⟨rfl, rfl, rfl, by decide +kernel, rfl, by decide +kernel, by decide +kernel⟩
abbrev s__law_pairs_right : Stmt := topS 62
abbrev n__law_pairs_right : List Str := ["_law_ring_here", "_law_other", "_law_plain", "_law_calm", "_law_more", "_law_found", "_law_one"]
theorem sc__law_pairs_right : FnScope n__law_pairs_right ["_law_ring_here", "_law_other"] (defScope s__law_pairs_right) := ⟨rfl, rfl, rfl, by decide +kernel, rfl, by decide +kernel, by decide +kernel⟩
abbrev s__law_new : Stmt := topS 63
abbrev n__law_new : List Str := ["_law_ring_here", "_law_is_calm"]
theorem sc__law_new : FnScope n__law_new ["_law_ring_here", "_law_is_calm"] (defScope s__law_new) := ⟨rfl, rfl, rfl, by decide +kernel, rfl, by decide +kernel, by decide +kernel⟩
abbrev s_law : Stmt := topS 64
abbrev n_law : List Str := ["_law_script", "_law_deck_here", "_law_ring_here", "_law_other", "_law_is_calm", "_law_tables", "_law_rings", "_law_turn", "_law_k", "_law_edit_here", "_law_same", "_law_found", "_law_odd"]
theorem sc_law : FnScope n_law ["_law_script"] (defScope s_law) := ⟨rfl, rfl, rfl, by decide +kernel, rfl, by decide +kernel, by decide +kernel⟩
abbrev s_Board___init__ : Stmt := inClass (topS 48) 0
abbrev n_Board___init__ : List Str := ["self", "ring", "error"]
theorem sc_Board___init__ : FnScope n_Board___init__ ["self", "ring"] (defScope s_Board___init__) := ⟨rfl, rfl, rfl, by decide +kernel, rfl, by decide +kernel, by decide +kernel⟩
abbrev s_Board___len__ : Stmt := inClass (topS 48) 1
abbrev n_Board___len__ : List Str := ["self"]
theorem sc_Board___len__ : FnScope n_Board___len__ ["self"] (defScope s_Board___len__) := ⟨rfl, rfl, rfl, by decide +kernel, rfl, by decide +kernel, by decide +kernel⟩
abbrev s_Board___eq__ : Stmt := inClass (topS 48) 3
abbrev n_Board___eq__ : List Str := ["self", "other"]
theorem sc_Board___eq__ : FnScope n_Board___eq__ ["self", "other"] (defScope s_Board___eq__) := ⟨rfl, rfl, rfl, by decide +kernel, rfl, by decide +kernel, by decide +kernel⟩
abbrev s_Board_put : Stmt := inClass (topS 48) 4
abbrev n_Board_put : List Str := ["self", "place", "height", "ring"]
theorem sc_Board_put : FnScope n_Board_put ["self", "place", "height"] (defScope s_Board_put) := ⟨rfl, rfl, rfl, by decide +kernel, rfl, by decide +kernel, by decide +kernel⟩
abbrev s_Board_insert : Stmt := inClass (topS 48) 5
abbrev n_Board_insert : List Str := ["self", "place", "height", "ring"]
theorem sc_Board_insert : FnScope n_Board_insert ["self", "place", "height"] (defScope s_Board_insert) := ⟨rfl, rfl, rfl, by decide +kernel, rfl, by decide +kernel, by decide +kernel⟩
abbrev s_Board_remove : Stmt := inClass (topS 48) 6
abbrev n_Board_remove : List Str := ["self", "place", "ring"]
theorem sc_Board_remove : FnScope n_Board_remove ["self", "place"] (defScope s_Board_remove) := ⟨rfl, rfl, rfl, by decide +kernel, rfl, by decide +kernel, by decide +kernel⟩
abbrev s_Board_check_room : Stmt := inClass (topS 48) 7
abbrev n_Board_check_room : List Str := ["self"]
theorem sc_Board_check_room : FnScope n_Board_check_room ["self"] (defScope s_Board_check_room) := ⟨rfl, rfl, rfl, by decide +kernel, rfl, by decide +kernel, by decide +kernel⟩
abbrev s_Board_keep : Stmt := inClass (topS 48) 8
abbrev n_Board_keep : List Str := ["self", "edit", "ring"]
theorem sc_Board_keep : FnScope n_Board_keep ["self", "edit", "ring"] (defScope s_Board_keep) := ⟨rfl, rfl, rfl, by decide +kernel, rfl, by decide +kernel, by decide +kernel⟩
abbrev s_Board_undo : Stmt := inClass (topS 48) 9
abbrev n_Board_undo : List Str := ["self"]
theorem sc_Board_undo : FnScope n_Board_undo ["self"] (defScope s_Board_undo) := ⟨rfl, rfl, rfl, by decide +kernel, rfl, by decide +kernel, by decide +kernel⟩
abbrev s_Board_go_back : Stmt := inClass (topS 48) 10
abbrev n_Board_go_back : List Str := ["self", "version"]
theorem sc_Board_go_back : FnScope n_Board_go_back ["self", "version"] (defScope s_Board_go_back) := ⟨rfl, rfl, rfl, by decide +kernel, rfl, by decide +kernel, by decide +kernel⟩
abbrev s_Board_ring : Stmt := inClass (topS 48) 13
abbrev n_Board_ring : List Str := ["self", "version"]
theorem sc_Board_ring : FnScope n_Board_ring ["self", "version"] (defScope s_Board_ring) := ⟨rfl, rfl, rfl, by decide +kernel, rfl, by decide +kernel, by decide +kernel⟩
abbrev s_CalmBoard___init__ : Stmt := inClass (topS 49) 0
abbrev n_CalmBoard___init__ : List Str := ["self", "ring", "tolerance", "turns", "__class__"]
theorem sc_CalmBoard___init__ : NdefX.NScope n_CalmBoard___init__ ["self", "ring", "tolerance", "turns"] ["__class__"] (defScope s_CalmBoard___init__) := NdefX.nscope_by (by decide +kernel)
abbrev s_CalmBoard_keep : Stmt := inClass (topS 49) 2
abbrev n_CalmBoard_keep : List Str := ["self", "edit", "ring", "__class__"]
theorem sc_CalmBoard_keep : NdefX.NScope n_CalmBoard_keep ["self", "edit", "ring"] ["__class__"] (defScope s_CalmBoard_keep) := NdefX.nscope_by (by decide +kernel)
abbrev s_CalmBoard_check_calm : Stmt := inClass (topS 49) 3
abbrev n_CalmBoard_check_calm : List Str := ["self", "ring", "tolerance", "allowed", "number"]
theorem sc_CalmBoard_check_calm : FnScope n_CalmBoard_check_calm ["self", "ring"] (defScope s_CalmBoard_check_calm) := ⟨rfl, rfl, rfl, by decide +kernel, rfl, by decide +kernel, by decide +kernel⟩
/-! ### the deck and its draws -/
abbrev s__law_deck : Stmt := topS 54
abbrev n__law_deck : List Str := ["_law_script", "_law_cell"]
theorem sc__law_deck : FnScope n__law_deck ["_law_script"] (defScope s__law_deck) := ⟨rfl, rfl, rfl, by decide +kernel, rfl, by decide +kernel, by decide +kernel⟩
section
variable {P : Program} {w : World} {K : PySem.W.Frag} {mg : Str → Option Value} {base : Heap}
def spDeck (K : PySem.W.Frag) : Sp := fun vs H Q _ => ∃ (a : Addr) (ns : List Int), vs = [.ref a] ∧ SqL K H a (ns.map V.int) ∧
  ∀ H' d l, Same H H' → H d = none → H l = none → Deck H' d l 0 → Q (.ref d) H'
theorem ok_deck {f : Addr} {fd : FuncData} {k : Nat} (F : Fun K "_law_deck" "_law_deck" s__law_deck f fd) (ma : mg "abs" = none) :
    FnOk P w K mg base CX0 (k + 1) f fd ["_law_script"] (spDeck K) := by
  refine F.ok sc__law_deck (fun vs H Q E h => ?_) (fun cdv A outer s H vs Q E hr h => ?_)
  · obtain ⟨a, ns, rfl, _⟩ := h
    rfl
  · obtain ⟨a, ns, rfl, hS, q⟩ := h
    refine ⟨_, pss_one (ps_ret (pe_lst (pa_cons (pe_lc (own := [("_law_cell", 1)]) (g := gName 1) (tt := tYes) (by rfl) sc__law_deck.nd
        (pi_list (pe_slice sl_list (pv 0) po_none (po_some pe_int)))
        (blkOk_by (own := [("_law_cell", 1)]) (N := n__law_deck) (sc := defScope s__law_deck) (by decide +kernel))
        (fun _ _ _ _ _ => pg_name (i := 1) sc__law_deck.nd rfl (Or.inl rfl)) (fun _ _ _ _ _ => pts_nil)
        (fun _ _ _ _ _ => pe_callB call_abs (by rfl) ma boot_abs (pa_cons (pv 1) pa_nil)))
      (pa_cons pe_int pa_nil)))), ?_⟩
    refine ⟨.ref a, rfl, 63, rfl, a, ns.map V.int, rfl, hS, fun p np => ?_⟩
    rw [show cutV (ns.map V.int) none (some 63) = (ns.take 63).map V.int by
      rw [List.map_take]
      exact cut_to _ 63]
    have s1 : Same H (upd H p (.lst ((ns.take 63).map V.int))) := same_upd np
    refine ⟨p, rfl, ⟨_, .inl (.inl upd_same)⟩, fun D nD => ?_⟩
    have nDp : D ≠ p := by
      rintro rfl
      rw [upd_same] at nD
      cases nD
    generalize hcs : ns.take 63 = cs at *
    have hlen : cs.length ≤ 63 := by
      rw [← hcs, List.length_take]
      omega
    refine lc_list (K := K) (a := p) (xs := cs.map V.int)
      (fun i H2 => Same H H2 ∧ H2 p = some (.lst (cs.map V.int)) ∧ ∃ as : List Int, H2 D = some (.lst (as.map V.int)) ∧ as.length = i ∧ ∀ c ∈ as, 0 ≤ c)
      ?_ ?_ ?_ ?_
    · exact ⟨s1.trans (same_upd nD), by rw [upd_ne nDp.symm, upd_same], [], upd_same, rfl, fun _ h => nomatch h⟩
    · intro i H2 _ h
      exact .inl (.inl h.2.1)
    · intro i x H2 hx h
      obtain ⟨h1, h2, as, h3, h4, h5⟩ := h
      obtain ⟨c, hc, rfl⟩ := get_map_int hx
      refine ⟨rfl, .int c, rfl, c, rfl, as.map V.int, h3, ?_, ?_, ?_, as ++ [if c < 0 then -c else c], ?_, ?_, ?_⟩
      · rw [List.length_map, h4]
        have hi : i < cs.length := (List.getElem?_eq_some_iff.mp hc).1
        exact small1000 (by omega)
      · intro b o e
        have nb : b ≠ D := ne_of_none e (s1.free nD)
        rw [upd_ne nb]
        exact h1 b o e
      · rw [upd_ne nDp.symm]
        exact h2
      · rw [upd_same, List.map_append]
        rfl
      · rw [List.length_append, h4]
        rfl
      · intro z hz
        rcases List.mem_append.mp hz with hz | hz
        · exact h5 z hz
        · rw [List.mem_singleton] at hz
          rw [hz]
          split <;> omega
    · intro H2 h
      obtain ⟨h1, h2, as, h3, h4, h5⟩ := h
      rw [List.length_map] at h4
      refine ⟨by show 2 ≤ sizeLine; decide, fun e ne => ?_⟩
      have nDe : D ≠ e := ne_of_none h3 ne
      refine q _ e D (h1.trans (same_upd ne)) (h1.free ne) (s1.free nD) ⟨upd_same, ⟨as, ?_, h5, by omega⟩, nDe, by decide⟩
      rw [upd_ne nDe]
      exact h3
end
set_option genInjectivity false
abbrev sI_BadEdit : Stmt := inClass (topS 18) 0
theorem scI_BadEdit : FnScope ["self", "index"] ["self", "index"] (defScope sI_BadEdit) := ⟨rfl, rfl, rfl, by decide +kernel, rfl, by decide +kernel, by decide +kernel⟩
abbrev sI_BadHeight : Stmt := inClass (topS 11) 0
theorem scI_BadHeight : FnScope ["self", "value"] ["self", "value"] (defScope sI_BadHeight) := ⟨rfl, rfl, rfl, by decide +kernel, rfl, by decide +kernel, by decide +kernel⟩
abbrev sI_BadRing : Stmt := inClass (topS 10) 0
theorem scI_BadRing : FnScope ["self", "error"] ["self", "error"] (defScope sI_BadRing) := ⟨rfl, rfl, rfl, by decide +kernel, rfl, by decide +kernel, by decide +kernel⟩
abbrev sI_BadText : Stmt := inClass (topS 20) 0
theorem scI_BadText : FnScope ["self", "index"] ["self", "index"] (defScope sI_BadText) := ⟨rfl, rfl, rfl, by decide +kernel, rfl, by decide +kernel, by decide +kernel⟩
abbrev sI_BadTolerance : Stmt := inClass (topS 12) 0
theorem scI_BadTolerance : FnScope ["self", "value"] ["self", "value"] (defScope sI_BadTolerance) := ⟨rfl, rfl, rfl, by decide +kernel, rfl, by decide +kernel, by decide +kernel⟩
abbrev sI_BadTurns : Stmt := inClass (topS 13) 0
theorem scI_BadTurns : FnScope ["self", "value"] ["self", "value"] (defScope sI_BadTurns) := ⟨rfl, rfl, rfl, by decide +kernel, rfl, by decide +kernel, by decide +kernel⟩
abbrev sI_NoIndex : Stmt := inClass (topS 21) 0
theorem scI_NoIndex : FnScope ["self", "value"] ["self", "value"] (defScope sI_NoIndex) := ⟨rfl, rfl, rfl, by decide +kernel, rfl, by decide +kernel, by decide +kernel⟩
abbrev sI_NoPlace : Stmt := inClass (topS 22) 0
theorem scI_NoPlace : FnScope ["self", "value"] ["self", "value"] (defScope sI_NoPlace) := ⟨rfl, rfl, rfl, by decide +kernel, rfl, by decide +kernel, by decide +kernel⟩
abbrev sI_NoVersion : Stmt := inClass (topS 23) 0
theorem scI_NoVersion : FnScope ["self", "value"] ["self", "value"] (defScope sI_NoVersion) := ⟨rfl, rfl, rfl, by decide +kernel, rfl, by decide +kernel, by decide +kernel⟩
abbrev sI_NotDistinct : Stmt := inClass (topS 6) 0
theorem scI_NotDistinct : FnScope ["self", "height"] ["self", "height"] (defScope sI_NotDistinct) := ⟨rfl, rfl, rfl, by decide +kernel, rfl, by decide +kernel, by decide +kernel⟩
abbrev sI_Rejected : Stmt := inClass (topS 19) 0
theorem scI_Rejected : FnScope ["self", "index"] ["self", "index"] (defScope sI_Rejected) := ⟨rfl, rfl, rfl, by decide +kernel, rfl, by decide +kernel, by decide +kernel⟩
abbrev sI_Restless : Stmt := inClass (topS 14) 0
theorem scI_Restless : FnScope ["self", "number"] ["self", "number"] (defScope sI_Restless) := ⟨rfl, rfl, rfl, by decide +kernel, rfl, by decide +kernel, by decide +kernel⟩
abbrev sI_TooLong : Stmt := inClass (topS 7) 0
theorem scI_TooLong : FnScope ["self", "bound"] ["self", "bound"] (defScope sI_TooLong) := ⟨rfl, rfl, rfl, by decide +kernel, rfl, by decide +kernel, by decide +kernel⟩
set_option maxHeartbeats 0 in
structure Tx (K : PySem.W.Frag) (mg : Str → Option Value) where
  f_is_number : Addr
  fd_is_number : FuncData
  F_is_number : Fun K "is_number" "is_number" s_is_number f_is_number fd_is_number
  b_is_number : Binds K fd_is_number ["value"] []
  g_is_number : mg "is_number" = some (.ref f_is_number)
  f_is_height : Addr
  fd_is_height : FuncData
  F_is_height : Fun K "is_height" "is_height" s_is_height f_is_height fd_is_height
  b_is_height : Binds K fd_is_height ["value"] []
  g_is_height : mg "is_height" = some (.ref f_is_height)
  f_is_tolerance : Addr
  fd_is_tolerance : FuncData
  F_is_tolerance : Fun K "is_tolerance" "is_tolerance" s_is_tolerance f_is_tolerance fd_is_tolerance
  b_is_tolerance : Binds K fd_is_tolerance ["value"] []
  g_is_tolerance : mg "is_tolerance" = some (.ref f_is_tolerance)
  f_ring_error : Addr
  fd_ring_error : FuncData
  F_ring_error : Fun K "ring_error" "ring_error" s_ring_error f_ring_error fd_ring_error
  b_ring_error : Binds K fd_ring_error ["value"] []
  g_ring_error : mg "ring_error" = some (.ref f_ring_error)
  f_turning_places : Addr
  fd_turning_places : FuncData
  F_turning_places : Fun K "turning_places" "turning_places" s_turning_places f_turning_places fd_turning_places
  b_turning_places : Binds K fd_turning_places ["ring"] []
  g_turning_places : mg "turning_places" = some (.ref f_turning_places)
  f_is_turn : Addr
  fd_is_turn : FuncData
  F_is_turn : Fun K "is_turn" "is_turn" s_is_turn f_is_turn fd_is_turn
  b_is_turn : Binds K fd_is_turn ["ring", "place"] []
  g_is_turn : mg "is_turn" = some (.ref f_is_turn)
  f_next_other_height : Addr
  fd_next_other_height : FuncData
  F_next_other_height : Fun K "next_other_height" "next_other_height" s_next_other_height f_next_other_height fd_next_other_height
  b_next_other_height : Binds K fd_next_other_height ["ring", "place"] []
  g_next_other_height : mg "next_other_height" = some (.ref f_next_other_height)
  f_heights_after : Addr
  fd_heights_after : FuncData
  F_heights_after : Fun K "heights_after" "heights_after" s_heights_after f_heights_after fd_heights_after
  b_heights_after : Binds K fd_heights_after ["ring", "place"] []
  g_heights_after : mg "heights_after" = some (.ref f_heights_after)
  f_swings_of : Addr
  fd_swings_of : FuncData
  F_swings_of : Fun K "swings_of" "swings_of" s_swings_of f_swings_of fd_swings_of
  b_swings_of : Binds K fd_swings_of ["ring"] []
  g_swings_of : mg "swings_of" = some (.ref f_swings_of)
  f_find_removal : Addr
  fd_find_removal : FuncData
  F_find_removal : Fun K "find_removal" "find_removal" s_find_removal f_find_removal fd_find_removal
  b_find_removal : Binds K fd_find_removal ["ring"] []
  g_find_removal : mg "find_removal" = some (.ref f_find_removal)
  f_flattest_pair : Addr
  fd_flattest_pair : FuncData
  F_flattest_pair : Fun K "flattest_pair" "flattest_pair" s_flattest_pair f_flattest_pair fd_flattest_pair
  b_flattest_pair : Binds K fd_flattest_pair ["ring", "left"] []
  g_flattest_pair : mg "flattest_pair" = some (.ref f_flattest_pair)
  f_valley_first : Addr
  fd_valley_first : FuncData
  F_valley_first : Fun K "valley_first" "valley_first" s_valley_first f_valley_first fd_valley_first
  b_valley_first : Binds K fd_valley_first ["ring", "turn", "neighbour"] []
  g_valley_first : mg "valley_first" = some (.ref f_valley_first)
  f_without_pair : Addr
  fd_without_pair : FuncData
  F_without_pair : Fun K "without_pair" "without_pair" s_without_pair f_without_pair fd_without_pair
  b_without_pair : Binds K fd_without_pair ["left", "pair"] []
  g_without_pair : mg "without_pair" = some (.ref f_without_pair)
  f_set_height : Addr
  fd_set_height : FuncData
  F_set_height : Fun K "set_height" "set_height" s_set_height f_set_height fd_set_height
  b_set_height : Binds K fd_set_height ["ring", "place", "height"] []
  g_set_height : mg "set_height" = some (.ref f_set_height)
  f_insert_height : Addr
  fd_insert_height : FuncData
  F_insert_height : Fun K "insert_height" "insert_height" s_insert_height f_insert_height fd_insert_height
  b_insert_height : Binds K fd_insert_height ["ring", "place", "height"] []
  g_insert_height : mg "insert_height" = some (.ref f_insert_height)
  f_remove_place : Addr
  fd_remove_place : FuncData
  F_remove_place : Fun K "remove_place" "remove_place" s_remove_place f_remove_place fd_remove_place
  b_remove_place : Binds K fd_remove_place ["ring", "place"] []
  g_remove_place : mg "remove_place" = some (.ref f_remove_place)
  f_swing_ranges : Addr
  fd_swing_ranges : FuncData
  F_swing_ranges : Fun K "swing_ranges" "swing_ranges" s_swing_ranges f_swing_ranges fd_swing_ranges
  b_swing_ranges : Binds K fd_swing_ranges ["ring"] []
  g_swing_ranges : mg "swing_ranges" = some (.ref f_swing_ranges)
  f_least_turns : Addr
  fd_least_turns : FuncData
  F_least_turns : Fun K "least_turns" "least_turns" s_least_turns f_least_turns fd_least_turns
  b_least_turns : Binds K fd_least_turns ["ring", "tolerance"] []
  g_least_turns : mg "least_turns" = some (.ref f_least_turns)
  f_check_place : Addr
  fd_check_place : FuncData
  F_check_place : Fun K "check_place" "check_place" s_check_place f_check_place fd_check_place
  b_check_place : Binds K fd_check_place ["value", "count"] []
  g_check_place : mg "check_place" = some (.ref f_check_place)
  f_check_height : Addr
  fd_check_height : FuncData
  F_check_height : Fun K "check_height" "check_height" s_check_height f_check_height fd_check_height
  b_check_height : Binds K fd_check_height ["value"] []
  g_check_height : mg "check_height" = some (.ref f_check_height)
  f_check_tolerance : Addr
  fd_check_tolerance : FuncData
  F_check_tolerance : Fun K "check_tolerance" "check_tolerance" s_check_tolerance f_check_tolerance fd_check_tolerance
  b_check_tolerance : Binds K fd_check_tolerance ["value"] []
  g_check_tolerance : mg "check_tolerance" = some (.ref f_check_tolerance)
  f__law_deck : Addr
  fd__law_deck : FuncData
  F__law_deck : Fun K "_law_deck" "_law_deck" s__law_deck f__law_deck fd__law_deck
  b__law_deck : Binds K fd__law_deck ["_law_script"] []
  g__law_deck : mg "_law_deck" = some (.ref f__law_deck)
  f__law_draw : Addr
  fd__law_draw : FuncData
  F__law_draw : Fun K "_law_draw" "_law_draw" s__law_draw f__law_draw fd__law_draw
  b__law_draw : Binds K fd__law_draw ["_law_deck_here", "_law_many"] []
  g__law_draw : mg "_law_draw" = some (.ref f__law_draw)
  f__law_ring : Addr
  fd__law_ring : FuncData
  F__law_ring : Fun K "_law_ring" "_law_ring" s__law_ring f__law_ring fd__law_ring
  b__law_ring : Binds K fd__law_ring ["_law_deck_here", "_law_most"] []
  g__law_ring : mg "_law_ring" = some (.ref f__law_ring)
  f__law_after : Addr
  fd__law_after : FuncData
  F__law_after : Fun K "_law_after" "_law_after" s__law_after f__law_after fd__law_after
  b__law_after : Binds K fd__law_after ["_law_ring_here", "_law_edit_here"] []
  g__law_after : mg "_law_after" = some (.ref f__law_after)
  f__law_edit : Addr
  fd__law_edit : FuncData
  F__law_edit : Fun K "_law_edit" "_law_edit" s__law_edit f__law_edit fd__law_edit
  b__law_edit : Binds K fd__law_edit ["_law_deck_here", "_law_ring_here"] []
  g__law_edit : mg "_law_edit" = some (.ref f__law_edit)
  f__law_do : Addr
  fd__law_do : FuncData
  F__law_do : Fun K "_law_do" "_law_do" s__law_do f__law_do fd__law_do
  b__law_do : Binds K fd__law_do ["_law_table", "_law_edit_here"] []
  g__law_do : mg "_law_do" = some (.ref f__law_do)
  f__law_flags : Addr
  fd__law_flags : FuncData
  F__law_flags : Fun K "_law_flags" "_law_flags" s__law_flags f__law_flags fd__law_flags
  b__law_flags : Binds K fd__law_flags ["_law_e"] []
  g__law_flags : mg "_law_flags" = some (.ref f__law_flags)
  f__law_errors_right : Addr
  fd__law_errors_right : FuncData
  F__law_errors_right : Fun K "_law_errors_right" "_law_errors_right" s__law_errors_right f__law_errors_right fd__law_errors_right
  b__law_errors_right : Binds K fd__law_errors_right ["_law_value"] []
  g__law_errors_right : mg "_law_errors_right" = some (.ref f__law_errors_right)
  f__law_pairs_right : Addr
  fd__law_pairs_right : FuncData
  F__law_pairs_right : Fun K "_law_pairs_right" "_law_pairs_right" s__law_pairs_right f__law_pairs_right fd__law_pairs_right
  b__law_pairs_right : Binds K fd__law_pairs_right ["_law_ring_here", "_law_other"] []
  g__law_pairs_right : mg "_law_pairs_right" = some (.ref f__law_pairs_right)
  f__law_new : Addr
  fd__law_new : FuncData
  F__law_new : Fun K "_law_new" "_law_new" s__law_new f__law_new fd__law_new
  b__law_new : Binds K fd__law_new ["_law_ring_here", "_law_is_calm"] []
  g__law_new : mg "_law_new" = some (.ref f__law_new)
  f_law : Addr
  fd_law : FuncData
  F_law : Fun K "law" "law" s_law f_law fd_law
  b_law : Binds K fd_law ["_law_script"] []
  g_law : mg "law" = some (.ref f_law)
  oA_Board : Addr
  oc_Board : OwnC K "Board" oA_Board
  m_Board : mg "Board" = some (.ref oA_Board)
  oA_CalmBoard : Addr
  oc_CalmBoard : OwnC K "CalmBoard" oA_CalmBoard
  m_CalmBoard : mg "CalmBoard" = some (.ref oA_CalmBoard)
  f_Board___init__ : Addr
  fd_Board___init__ : FuncData
  F_Board___init__ : Fun K "__init__" "Board.__init__" s_Board___init__ f_Board___init__ fd_Board___init__
  mt_Board___init__ : Meth K oA_Board "__init__" f_Board___init__
  b_Board___init__ : Binds K fd_Board___init__ ["self", "ring"] []
  f_Board___len__ : Addr
  fd_Board___len__ : FuncData
  F_Board___len__ : Fun K "__len__" "Board.__len__" s_Board___len__ f_Board___len__ fd_Board___len__
  mt_Board___len__ : Meth K oA_Board "__len__" f_Board___len__
  b_Board___len__ : Binds K fd_Board___len__ ["self"] []
  f_Board___eq__ : Addr
  fd_Board___eq__ : FuncData
  F_Board___eq__ : Fun K "__eq__" "Board.__eq__" s_Board___eq__ f_Board___eq__ fd_Board___eq__
  mt_Board___eq__ : Meth K oA_Board "__eq__" f_Board___eq__
  b_Board___eq__ : Binds K fd_Board___eq__ ["self", "other"] []
  f_Board_put : Addr
  fd_Board_put : FuncData
  F_Board_put : Fun K "put" "Board.put" s_Board_put f_Board_put fd_Board_put
  mt_Board_put : Meth K oA_Board "put" f_Board_put
  b_Board_put : Binds K fd_Board_put ["self", "place", "height"] []
  f_Board_insert : Addr
  fd_Board_insert : FuncData
  F_Board_insert : Fun K "insert" "Board.insert" s_Board_insert f_Board_insert fd_Board_insert
  mt_Board_insert : Meth K oA_Board "insert" f_Board_insert
  b_Board_insert : Binds K fd_Board_insert ["self", "place", "height"] []
  f_Board_remove : Addr
  fd_Board_remove : FuncData
  F_Board_remove : Fun K "remove" "Board.remove" s_Board_remove f_Board_remove fd_Board_remove
  mt_Board_remove : Meth K oA_Board "remove" f_Board_remove
  b_Board_remove : Binds K fd_Board_remove ["self", "place"] []
  f_Board_check_room : Addr
  fd_Board_check_room : FuncData
  F_Board_check_room : Fun K "check_room" "Board.check_room" s_Board_check_room f_Board_check_room fd_Board_check_room
  mt_Board_check_room : Meth K oA_Board "check_room" f_Board_check_room
  b_Board_check_room : Binds K fd_Board_check_room ["self"] []
  f_Board_keep : Addr
  fd_Board_keep : FuncData
  F_Board_keep : Fun K "keep" "Board.keep" s_Board_keep f_Board_keep fd_Board_keep
  mt_Board_keep : Meth K oA_Board "keep" f_Board_keep
  b_Board_keep : Binds K fd_Board_keep ["self", "edit", "ring"] []
  f_Board_undo : Addr
  fd_Board_undo : FuncData
  F_Board_undo : Fun K "undo" "Board.undo" s_Board_undo f_Board_undo fd_Board_undo
  mt_Board_undo : Meth K oA_Board "undo" f_Board_undo
  b_Board_undo : Binds K fd_Board_undo ["self"] []
  f_Board_go_back : Addr
  fd_Board_go_back : FuncData
  F_Board_go_back : Fun K "go_back" "Board.go_back" s_Board_go_back f_Board_go_back fd_Board_go_back
  mt_Board_go_back : Meth K oA_Board "go_back" f_Board_go_back
  b_Board_go_back : Binds K fd_Board_go_back ["self", "version"] []
  f_Board_ring : Addr
  fd_Board_ring : FuncData
  F_Board_ring : Fun K "ring" "Board.ring" s_Board_ring f_Board_ring fd_Board_ring
  mt_Board_ring : Meth K oA_Board "ring" f_Board_ring
  f_CalmBoard___init__ : Addr
  fd_CalmBoard___init__ : FuncData
  F_CalmBoard___init__ : MetSup K oA_CalmBoard "__init__" "CalmBoard.__init__" s_CalmBoard___init__ f_CalmBoard___init__ fd_CalmBoard___init__ "/claim/cut.py"
  mt_CalmBoard___init__ : Meth K oA_CalmBoard "__init__" f_CalmBoard___init__
  b_CalmBoard___init__ : Binds K fd_CalmBoard___init__ ["self", "ring", "tolerance", "turns"] []
  f_CalmBoard_keep : Addr
  fd_CalmBoard_keep : FuncData
  F_CalmBoard_keep : MetSup K oA_CalmBoard "keep" "CalmBoard.keep" s_CalmBoard_keep f_CalmBoard_keep fd_CalmBoard_keep "/claim/cut.py"
  mt_CalmBoard_keep : Meth K oA_CalmBoard "keep" f_CalmBoard_keep
  b_CalmBoard_keep : Binds K fd_CalmBoard_keep ["self", "edit", "ring"] []
  f_CalmBoard_check_calm : Addr
  fd_CalmBoard_check_calm : FuncData
  F_CalmBoard_check_calm : Fun K "check_calm" "CalmBoard.check_calm" s_CalmBoard_check_calm f_CalmBoard_check_calm fd_CalmBoard_check_calm
  mt_CalmBoard_check_calm : Meth K oA_CalmBoard "check_calm" f_CalmBoard_check_calm
  b_CalmBoard_check_calm : Binds K fd_CalmBoard_check_calm ["self", "ring"] []
  bk_Board_ring_0 : ∃ g, MBn K fd_Board_ring ["self", "version"] [] g (fun vs zs => vs ++ zs ++ [.non])
  na_Board_limits : NoAttr K oA_Board "limits"
  na_Board_standing : NoAttr K oA_Board "standing"
  na_Board_states : NoAttr K oA_Board "states"
  na_CalmBoard_limits : NoAttr K oA_CalmBoard "limits"
  na_CalmBoard_standing : NoAttr K oA_CalmBoard "standing"
  na_CalmBoard_states : NoAttr K oA_CalmBoard "states"
  m_isinstance : mg "isinstance" = none
  m_int : mg "int" = none
  m_bool : mg "bool" = none
  m_enumerate : mg "enumerate" = none
  m_tuple : mg "tuple" = none
  m_len : mg "len" = none
  m_range : mg "range" = none
  m_sorted : mg "sorted" = none
  m_abs : mg "abs" = none
  m_min : mg "min" = none
  m_max : mg "max" = none
  m_ValueError : mg "ValueError" = none
  m_LookupError : mg "LookupError" = none
  m_repr : mg "repr" = none
  m_list : mg "list" = none
  m_version : mg "version" = none
  m_super : mg "super" = none
  t_LIMIT : Tok
  m_LIMIT : mg "LIMIT" = some (.int 1000000000 t_LIMIT)
  t_MAX_LENGTH : Tok
  m_MAX_LENGTH : mg "MAX_LENGTH" = some (.int 24 t_MAX_LENGTH)
  t_MAX_EDITS : Tok
  m_MAX_EDITS : mg "MAX_EDITS" = some (.int 60 t_MAX_EDITS)
  ct : Str → Value
  mi_CalmBoard_Board___eq__ : Meth K oA_CalmBoard "__eq__" f_Board___eq__
  mi_CalmBoard_Board___len__ : Meth K oA_CalmBoard "__len__" f_Board___len__
  mi_CalmBoard_Board_check_room : Meth K oA_CalmBoard "check_room" f_Board_check_room
  mi_CalmBoard_Board_go_back : Meth K oA_CalmBoard "go_back" f_Board_go_back
  mi_CalmBoard_Board_insert : Meth K oA_CalmBoard "insert" f_Board_insert
  mi_CalmBoard_Board_put : Meth K oA_CalmBoard "put" f_Board_put
  mi_CalmBoard_Board_remove : Meth K oA_CalmBoard "remove" f_Board_remove
  mi_CalmBoard_Board_ring : Meth K oA_CalmBoard "ring" f_Board_ring
  mi_CalmBoard_Board_undo : Meth K oA_CalmBoard "undo" f_Board_undo
  ne_cls : oA_Board ≠ oA_CalmBoard
  sb_01 : PySem.W.subIn K (.ref oA_Board) (.ref oA_CalmBoard) = some false
  sb_10 : PySem.W.subIn K (.ref oA_CalmBoard) (.ref oA_Board) = some true
  ec_Board : EqC K f_Board___eq__ oA_Board
  ec_CalmBoard : EqC K f_Board___eq__ oA_CalmBoard
  kt_Board : ∀ n ∈ tyAll, PySem.W.kitOne K (.type n) (.ref oA_Board) = some false
  ic_Board : IsC K oA_Board
  ic_CalmBoard : IsC K oA_CalmBoard
  ki_Board_Board : PySem.W.kitOne K (.ref oA_Board) (.ref oA_Board) = some true
  ki_CalmBoard_Board : PySem.W.kitOne K (.ref oA_CalmBoard) (.ref oA_Board) = some true
  hc_CalmBoard : ∃ cd, PySem.W.clsIn K oA_CalmBoard = some cd
  su_CalmBoard___init__ : SupC K oA_CalmBoard oA_CalmBoard "__init__" f_Board___init__
  su_CalmBoard_keep : SupC K oA_CalmBoard oA_CalmBoard "keep" f_Board_keep
  c_BadEdit : Addr
  m_BadEdit : mg "BadEdit" = some (.ref c_BadEdit)
  c_BadHeight : Addr
  m_BadHeight : mg "BadHeight" = some (.ref c_BadHeight)
  c_BadRing : Addr
  m_BadRing : mg "BadRing" = some (.ref c_BadRing)
  c_BadText : Addr
  m_BadText : mg "BadText" = some (.ref c_BadText)
  c_BadTolerance : Addr
  m_BadTolerance : mg "BadTolerance" = some (.ref c_BadTolerance)
  c_BadTurns : Addr
  m_BadTurns : mg "BadTurns" = some (.ref c_BadTurns)
  c_NoIndex : Addr
  m_NoIndex : mg "NoIndex" = some (.ref c_NoIndex)
  c_NoPlace : Addr
  m_NoPlace : mg "NoPlace" = some (.ref c_NoPlace)
  c_NoVersion : Addr
  m_NoVersion : mg "NoVersion" = some (.ref c_NoVersion)
  c_NotDistinct : Addr
  m_NotDistinct : mg "NotDistinct" = some (.ref c_NotDistinct)
  c_Rejected : Addr
  m_Rejected : mg "Rejected" = some (.ref c_Rejected)
  c_Restless : Addr
  m_Restless : mg "Restless" = some (.ref c_Restless)
  c_TooLong : Addr
  m_TooLong : mg "TooLong" = some (.ref c_TooLong)
  c_BadEdits : Addr
  m_BadEdits : mg "BadEdits" = some (.ref c_BadEdits)
  c_LastPlace : Addr
  m_LastPlace : mg "LastPlace" = some (.ref c_LastPlace)
  c_NothingToUndo : Addr
  m_NothingToUndo : mg "NothingToUndo" = some (.ref c_NothingToUndo)
  c_OutOfRange : Addr
  m_OutOfRange : mg "OutOfRange" = some (.ref c_OutOfRange)
  c_RingError : Addr
  m_RingError : mg "RingError" = some (.ref c_RingError)
  c_TooManyEdits : Addr
  m_TooManyEdits : mg "TooManyEdits" = some (.ref c_TooManyEdits)
  x_BadEdit : ct "BadEdit" = .ref c_BadEdit
  xc_BadEdit : XC K c_BadEdit
  x_BadHeight : ct "BadHeight" = .ref c_BadHeight
  xc_BadHeight : XC K c_BadHeight
  x_BadRing : ct "BadRing" = .ref c_BadRing
  xc_BadRing : XC K c_BadRing
  x_BadText : ct "BadText" = .ref c_BadText
  xc_BadText : XC K c_BadText
  x_BadTolerance : ct "BadTolerance" = .ref c_BadTolerance
  xc_BadTolerance : XC K c_BadTolerance
  x_BadTurns : ct "BadTurns" = .ref c_BadTurns
  xc_BadTurns : XC K c_BadTurns
  x_NoIndex : ct "NoIndex" = .ref c_NoIndex
  xc_NoIndex : XC K c_NoIndex
  x_NoPlace : ct "NoPlace" = .ref c_NoPlace
  xc_NoPlace : XC K c_NoPlace
  x_NoVersion : ct "NoVersion" = .ref c_NoVersion
  xc_NoVersion : XC K c_NoVersion
  x_NotDistinct : ct "NotDistinct" = .ref c_NotDistinct
  xc_NotDistinct : XC K c_NotDistinct
  x_Rejected : ct "Rejected" = .ref c_Rejected
  xc_Rejected : XC K c_Rejected
  x_Restless : ct "Restless" = .ref c_Restless
  xc_Restless : XC K c_Restless
  x_TooLong : ct "TooLong" = .ref c_TooLong
  xc_TooLong : XC K c_TooLong
  x_BadEdits : ct "BadEdits" = .ref c_BadEdits
  xc_BadEdits : XC K c_BadEdits
  x_LastPlace : ct "LastPlace" = .ref c_LastPlace
  xc_LastPlace : XC K c_LastPlace
  x_NothingToUndo : ct "NothingToUndo" = .ref c_NothingToUndo
  xc_NothingToUndo : XC K c_NothingToUndo
  x_OutOfRange : ct "OutOfRange" = .ref c_OutOfRange
  xc_OutOfRange : XC K c_OutOfRange
  x_RingError : ct "RingError" = .ref c_RingError
  xc_RingError : XC K c_RingError
  x_TooManyEdits : ct "TooManyEdits" = .ref c_TooManyEdits
  xc_TooManyEdits : XC K c_TooManyEdits
  o_BadEdit : OexB K c_BadEdit [.type "ValueError", .type "Exception", .type "BaseException", .type "object"] "ValueError.__new__"
  n_BadEdit : PySem.W.findIn K (.ref c_BadEdit) "index" = some none
  fI_BadEdit : Addr
  fdI_BadEdit : FuncData
  i_BadEdit : PySem.W.findIn K (.ref c_BadEdit) "__init__" = some (some (.ref fI_BadEdit))
  y_BadEdit : PySem.W.typeIn K (.ref fI_BadEdit) = some (.type "function")
  FI_BadEdit : Fun K "__init__" "BadEdit.__init__" sI_BadEdit fI_BadEdit fdI_BadEdit
  bI_BadEdit : Binds K fdI_BadEdit ["self", "index"] []
  h_BadEdit : PySem.W.hasDictIn K c_BadEdit = true
  o_BadHeight : OexB K c_BadHeight [.type "ValueError", .type "Exception", .type "BaseException", .type "object"] "ValueError.__new__"
  n_BadHeight : PySem.W.findIn K (.ref c_BadHeight) "value" = some none
  fI_BadHeight : Addr
  fdI_BadHeight : FuncData
  i_BadHeight : PySem.W.findIn K (.ref c_BadHeight) "__init__" = some (some (.ref fI_BadHeight))
  y_BadHeight : PySem.W.typeIn K (.ref fI_BadHeight) = some (.type "function")
  FI_BadHeight : Fun K "__init__" "BadHeight.__init__" sI_BadHeight fI_BadHeight fdI_BadHeight
  bI_BadHeight : Binds K fdI_BadHeight ["self", "value"] []
  h_BadHeight : PySem.W.hasDictIn K c_BadHeight = true
  o_BadRing : OexB K c_BadRing [.type "ValueError", .type "Exception", .type "BaseException", .type "object"] "ValueError.__new__"
  n_BadRing : PySem.W.findIn K (.ref c_BadRing) "error" = some none
  fI_BadRing : Addr
  fdI_BadRing : FuncData
  i_BadRing : PySem.W.findIn K (.ref c_BadRing) "__init__" = some (some (.ref fI_BadRing))
  y_BadRing : PySem.W.typeIn K (.ref fI_BadRing) = some (.type "function")
  FI_BadRing : Fun K "__init__" "BadRing.__init__" sI_BadRing fI_BadRing fdI_BadRing
  bI_BadRing : Binds K fdI_BadRing ["self", "error"] []
  h_BadRing : PySem.W.hasDictIn K c_BadRing = true
  o_BadText : OexB K c_BadText [.type "ValueError", .type "Exception", .type "BaseException", .type "object"] "ValueError.__new__"
  n_BadText : PySem.W.findIn K (.ref c_BadText) "index" = some none
  fI_BadText : Addr
  fdI_BadText : FuncData
  i_BadText : PySem.W.findIn K (.ref c_BadText) "__init__" = some (some (.ref fI_BadText))
  y_BadText : PySem.W.typeIn K (.ref fI_BadText) = some (.type "function")
  FI_BadText : Fun K "__init__" "BadText.__init__" sI_BadText fI_BadText fdI_BadText
  bI_BadText : Binds K fdI_BadText ["self", "index"] []
  h_BadText : PySem.W.hasDictIn K c_BadText = true
  o_BadTolerance : OexB K c_BadTolerance [.type "ValueError", .type "Exception", .type "BaseException", .type "object"] "ValueError.__new__"
  n_BadTolerance : PySem.W.findIn K (.ref c_BadTolerance) "value" = some none
  fI_BadTolerance : Addr
  fdI_BadTolerance : FuncData
  i_BadTolerance : PySem.W.findIn K (.ref c_BadTolerance) "__init__" = some (some (.ref fI_BadTolerance))
  y_BadTolerance : PySem.W.typeIn K (.ref fI_BadTolerance) = some (.type "function")
  FI_BadTolerance : Fun K "__init__" "BadTolerance.__init__" sI_BadTolerance fI_BadTolerance fdI_BadTolerance
  bI_BadTolerance : Binds K fdI_BadTolerance ["self", "value"] []
  h_BadTolerance : PySem.W.hasDictIn K c_BadTolerance = true
  o_BadTurns : OexB K c_BadTurns [.type "ValueError", .type "Exception", .type "BaseException", .type "object"] "ValueError.__new__"
  n_BadTurns : PySem.W.findIn K (.ref c_BadTurns) "value" = some none
  fI_BadTurns : Addr
  fdI_BadTurns : FuncData
  i_BadTurns : PySem.W.findIn K (.ref c_BadTurns) "__init__" = some (some (.ref fI_BadTurns))
  y_BadTurns : PySem.W.typeIn K (.ref fI_BadTurns) = some (.type "function")
  FI_BadTurns : Fun K "__init__" "BadTurns.__init__" sI_BadTurns fI_BadTurns fdI_BadTurns
  bI_BadTurns : Binds K fdI_BadTurns ["self", "value"] []
  h_BadTurns : PySem.W.hasDictIn K c_BadTurns = true
  o_NoIndex : OexB K c_NoIndex [.type "LookupError", .type "Exception", .type "BaseException", .type "object"] "LookupError.__new__"
  n_NoIndex : PySem.W.findIn K (.ref c_NoIndex) "value" = some none
  fI_NoIndex : Addr
  fdI_NoIndex : FuncData
  i_NoIndex : PySem.W.findIn K (.ref c_NoIndex) "__init__" = some (some (.ref fI_NoIndex))
  y_NoIndex : PySem.W.typeIn K (.ref fI_NoIndex) = some (.type "function")
  FI_NoIndex : Fun K "__init__" "NoIndex.__init__" sI_NoIndex fI_NoIndex fdI_NoIndex
  bI_NoIndex : Binds K fdI_NoIndex ["self", "value"] []
  h_NoIndex : PySem.W.hasDictIn K c_NoIndex = true
  o_NoPlace : OexB K c_NoPlace [.type "LookupError", .type "Exception", .type "BaseException", .type "object"] "LookupError.__new__"
  n_NoPlace : PySem.W.findIn K (.ref c_NoPlace) "value" = some none
  fI_NoPlace : Addr
  fdI_NoPlace : FuncData
  i_NoPlace : PySem.W.findIn K (.ref c_NoPlace) "__init__" = some (some (.ref fI_NoPlace))
  y_NoPlace : PySem.W.typeIn K (.ref fI_NoPlace) = some (.type "function")
  FI_NoPlace : Fun K "__init__" "NoPlace.__init__" sI_NoPlace fI_NoPlace fdI_NoPlace
  bI_NoPlace : Binds K fdI_NoPlace ["self", "value"] []
  h_NoPlace : PySem.W.hasDictIn K c_NoPlace = true
  o_NoVersion : OexB K c_NoVersion [.type "LookupError", .type "Exception", .type "BaseException", .type "object"] "LookupError.__new__"
  n_NoVersion : PySem.W.findIn K (.ref c_NoVersion) "value" = some none
  fI_NoVersion : Addr
  fdI_NoVersion : FuncData
  i_NoVersion : PySem.W.findIn K (.ref c_NoVersion) "__init__" = some (some (.ref fI_NoVersion))
  y_NoVersion : PySem.W.typeIn K (.ref fI_NoVersion) = some (.type "function")
  FI_NoVersion : Fun K "__init__" "NoVersion.__init__" sI_NoVersion fI_NoVersion fdI_NoVersion
  bI_NoVersion : Binds K fdI_NoVersion ["self", "value"] []
  h_NoVersion : PySem.W.hasDictIn K c_NoVersion = true
  o_NotDistinct : OexB K c_NotDistinct [.type "ValueError", .type "Exception", .type "BaseException", .type "object"] "ValueError.__new__"
  n_NotDistinct : PySem.W.findIn K (.ref c_NotDistinct) "height" = some none
  fI_NotDistinct : Addr
  fdI_NotDistinct : FuncData
  i_NotDistinct : PySem.W.findIn K (.ref c_NotDistinct) "__init__" = some (some (.ref fI_NotDistinct))
  y_NotDistinct : PySem.W.typeIn K (.ref fI_NotDistinct) = some (.type "function")
  FI_NotDistinct : Fun K "__init__" "NotDistinct.__init__" sI_NotDistinct fI_NotDistinct fdI_NotDistinct
  bI_NotDistinct : Binds K fdI_NotDistinct ["self", "height"] []
  h_NotDistinct : PySem.W.hasDictIn K c_NotDistinct = true
  o_Rejected : OexB K c_Rejected [.type "ValueError", .type "Exception", .type "BaseException", .type "object"] "ValueError.__new__"
  n_Rejected : PySem.W.findIn K (.ref c_Rejected) "index" = some none
  fI_Rejected : Addr
  fdI_Rejected : FuncData
  i_Rejected : PySem.W.findIn K (.ref c_Rejected) "__init__" = some (some (.ref fI_Rejected))
  y_Rejected : PySem.W.typeIn K (.ref fI_Rejected) = some (.type "function")
  FI_Rejected : Fun K "__init__" "Rejected.__init__" sI_Rejected fI_Rejected fdI_Rejected
  bI_Rejected : Binds K fdI_Rejected ["self", "index"] []
  h_Rejected : PySem.W.hasDictIn K c_Rejected = true
  o_Restless : OexB K c_Restless [.type "ValueError", .type "Exception", .type "BaseException", .type "object"] "ValueError.__new__"
  n_Restless : PySem.W.findIn K (.ref c_Restless) "number" = some none
  fI_Restless : Addr
  fdI_Restless : FuncData
  i_Restless : PySem.W.findIn K (.ref c_Restless) "__init__" = some (some (.ref fI_Restless))
  y_Restless : PySem.W.typeIn K (.ref fI_Restless) = some (.type "function")
  FI_Restless : Fun K "__init__" "Restless.__init__" sI_Restless fI_Restless fdI_Restless
  bI_Restless : Binds K fdI_Restless ["self", "number"] []
  h_Restless : PySem.W.hasDictIn K c_Restless = true
  o_TooLong : OexB K c_TooLong [.type "ValueError", .type "Exception", .type "BaseException", .type "object"] "ValueError.__new__"
  n_TooLong : PySem.W.findIn K (.ref c_TooLong) "bound" = some none
  fI_TooLong : Addr
  fdI_TooLong : FuncData
  i_TooLong : PySem.W.findIn K (.ref c_TooLong) "__init__" = some (some (.ref fI_TooLong))
  y_TooLong : PySem.W.typeIn K (.ref fI_TooLong) = some (.type "function")
  FI_TooLong : Fun K "__init__" "TooLong.__init__" sI_TooLong fI_TooLong fdI_TooLong
  bI_TooLong : Binds K fdI_TooLong ["self", "bound"] []
  h_TooLong : PySem.W.hasDictIn K c_TooLong = true
  q_BadEdits : PySem.W.excIn K c_BadEdits [.type "ValueError", .type "Exception", .type "BaseException", .type "object"] "ValueError.__new__" = true
  kc_BadEdits : PySem.W.keepIn K (.ref c_BadEdits) = true
  ty_BadEdits : PySem.W.typeIn K (.ref c_BadEdits) = some (.type "type")
  q_LastPlace : PySem.W.excIn K c_LastPlace [.type "ValueError", .type "Exception", .type "BaseException", .type "object"] "ValueError.__new__" = true
  kc_LastPlace : PySem.W.keepIn K (.ref c_LastPlace) = true
  ty_LastPlace : PySem.W.typeIn K (.ref c_LastPlace) = some (.type "type")
  q_NothingToUndo : PySem.W.excIn K c_NothingToUndo [.type "ValueError", .type "Exception", .type "BaseException", .type "object"] "ValueError.__new__" = true
  kc_NothingToUndo : PySem.W.keepIn K (.ref c_NothingToUndo) = true
  ty_NothingToUndo : PySem.W.typeIn K (.ref c_NothingToUndo) = some (.type "type")
  q_OutOfRange : PySem.W.excIn K c_OutOfRange [.type "ValueError", .type "Exception", .type "BaseException", .type "object"] "ValueError.__new__" = true
  kc_OutOfRange : PySem.W.keepIn K (.ref c_OutOfRange) = true
  ty_OutOfRange : PySem.W.typeIn K (.ref c_OutOfRange) = some (.type "type")
  q_RingError : PySem.W.excIn K c_RingError [.type "ValueError", .type "Exception", .type "BaseException", .type "object"] "ValueError.__new__" = true
  kc_RingError : PySem.W.keepIn K (.ref c_RingError) = true
  ty_RingError : PySem.W.typeIn K (.ref c_RingError) = some (.type "type")
  q_TooManyEdits : PySem.W.excIn K c_TooManyEdits [.type "ValueError", .type "Exception", .type "BaseException", .type "object"] "ValueError.__new__" = true
  kc_TooManyEdits : PySem.W.keepIn K (.ref c_TooManyEdits) = true
  ty_TooManyEdits : PySem.W.typeIn K (.ref c_TooManyEdits) = some (.type "type")
  kv_BadEdit : [c_LastPlace, c_OutOfRange, c_TooManyEdits, c_NothingToUndo, c_BadEdits, c_NotDistinct, c_TooLong, c_BadRing, c_BadHeight, c_BadTolerance, c_BadTurns, c_Restless, c_BadEdit, c_Rejected, c_BadText, c_NoIndex, c_NoPlace, c_NoVersion, c_RingError].map (fun D => PySem.W.kitOne K (.ref D) (.ref c_BadEdit)) = bs_BadEdit.map some
  kv_BadEdits : [c_LastPlace, c_OutOfRange, c_TooManyEdits, c_NothingToUndo, c_BadEdits, c_NotDistinct, c_TooLong, c_BadRing, c_BadHeight, c_BadTolerance, c_BadTurns, c_Restless, c_BadEdit, c_Rejected, c_BadText, c_NoIndex, c_NoPlace, c_NoVersion, c_RingError].map (fun D => PySem.W.kitOne K (.ref D) (.ref c_BadEdits)) = bs_BadEdits.map some
  kv_BadHeight : [c_LastPlace, c_OutOfRange, c_TooManyEdits, c_NothingToUndo, c_BadEdits, c_NotDistinct, c_TooLong, c_BadRing, c_BadHeight, c_BadTolerance, c_BadTurns, c_Restless, c_BadEdit, c_Rejected, c_BadText, c_NoIndex, c_NoPlace, c_NoVersion, c_RingError].map (fun D => PySem.W.kitOne K (.ref D) (.ref c_BadHeight)) = bs_BadHeight.map some
  kv_BadRing : [c_LastPlace, c_OutOfRange, c_TooManyEdits, c_NothingToUndo, c_BadEdits, c_NotDistinct, c_TooLong, c_BadRing, c_BadHeight, c_BadTolerance, c_BadTurns, c_Restless, c_BadEdit, c_Rejected, c_BadText, c_NoIndex, c_NoPlace, c_NoVersion, c_RingError].map (fun D => PySem.W.kitOne K (.ref D) (.ref c_BadRing)) = bs_BadRing.map some
  kv_BadText : [c_LastPlace, c_OutOfRange, c_TooManyEdits, c_NothingToUndo, c_BadEdits, c_NotDistinct, c_TooLong, c_BadRing, c_BadHeight, c_BadTolerance, c_BadTurns, c_Restless, c_BadEdit, c_Rejected, c_BadText, c_NoIndex, c_NoPlace, c_NoVersion, c_RingError].map (fun D => PySem.W.kitOne K (.ref D) (.ref c_BadText)) = bs_BadText.map some
  kv_BadTolerance : [c_LastPlace, c_OutOfRange, c_TooManyEdits, c_NothingToUndo, c_BadEdits, c_NotDistinct, c_TooLong, c_BadRing, c_BadHeight, c_BadTolerance, c_BadTurns, c_Restless, c_BadEdit, c_Rejected, c_BadText, c_NoIndex, c_NoPlace, c_NoVersion, c_RingError].map (fun D => PySem.W.kitOne K (.ref D) (.ref c_BadTolerance)) = bs_BadTolerance.map some
  kv_BadTurns : [c_LastPlace, c_OutOfRange, c_TooManyEdits, c_NothingToUndo, c_BadEdits, c_NotDistinct, c_TooLong, c_BadRing, c_BadHeight, c_BadTolerance, c_BadTurns, c_Restless, c_BadEdit, c_Rejected, c_BadText, c_NoIndex, c_NoPlace, c_NoVersion, c_RingError].map (fun D => PySem.W.kitOne K (.ref D) (.ref c_BadTurns)) = bs_BadTurns.map some
  kv_LastPlace : [c_LastPlace, c_OutOfRange, c_TooManyEdits, c_NothingToUndo, c_BadEdits, c_NotDistinct, c_TooLong, c_BadRing, c_BadHeight, c_BadTolerance, c_BadTurns, c_Restless, c_BadEdit, c_Rejected, c_BadText, c_NoIndex, c_NoPlace, c_NoVersion, c_RingError].map (fun D => PySem.W.kitOne K (.ref D) (.ref c_LastPlace)) = bs_LastPlace.map some
  kv_LookupError : [c_LastPlace, c_OutOfRange, c_TooManyEdits, c_NothingToUndo, c_BadEdits, c_NotDistinct, c_TooLong, c_BadRing, c_BadHeight, c_BadTolerance, c_BadTurns, c_Restless, c_BadEdit, c_Rejected, c_BadText, c_NoIndex, c_NoPlace, c_NoVersion, c_RingError].map (fun D => PySem.W.kitOne K (.ref D) (.type "LookupError")) = bs_LookupError.map some
  kv_NoIndex : [c_LastPlace, c_OutOfRange, c_TooManyEdits, c_NothingToUndo, c_BadEdits, c_NotDistinct, c_TooLong, c_BadRing, c_BadHeight, c_BadTolerance, c_BadTurns, c_Restless, c_BadEdit, c_Rejected, c_BadText, c_NoIndex, c_NoPlace, c_NoVersion, c_RingError].map (fun D => PySem.W.kitOne K (.ref D) (.ref c_NoIndex)) = bs_NoIndex.map some
  kv_NoPlace : [c_LastPlace, c_OutOfRange, c_TooManyEdits, c_NothingToUndo, c_BadEdits, c_NotDistinct, c_TooLong, c_BadRing, c_BadHeight, c_BadTolerance, c_BadTurns, c_Restless, c_BadEdit, c_Rejected, c_BadText, c_NoIndex, c_NoPlace, c_NoVersion, c_RingError].map (fun D => PySem.W.kitOne K (.ref D) (.ref c_NoPlace)) = bs_NoPlace.map some
  kv_NoVersion : [c_LastPlace, c_OutOfRange, c_TooManyEdits, c_NothingToUndo, c_BadEdits, c_NotDistinct, c_TooLong, c_BadRing, c_BadHeight, c_BadTolerance, c_BadTurns, c_Restless, c_BadEdit, c_Rejected, c_BadText, c_NoIndex, c_NoPlace, c_NoVersion, c_RingError].map (fun D => PySem.W.kitOne K (.ref D) (.ref c_NoVersion)) = bs_NoVersion.map some
  kv_NotDistinct : [c_LastPlace, c_OutOfRange, c_TooManyEdits, c_NothingToUndo, c_BadEdits, c_NotDistinct, c_TooLong, c_BadRing, c_BadHeight, c_BadTolerance, c_BadTurns, c_Restless, c_BadEdit, c_Rejected, c_BadText, c_NoIndex, c_NoPlace, c_NoVersion, c_RingError].map (fun D => PySem.W.kitOne K (.ref D) (.ref c_NotDistinct)) = bs_NotDistinct.map some
  kv_NothingToUndo : [c_LastPlace, c_OutOfRange, c_TooManyEdits, c_NothingToUndo, c_BadEdits, c_NotDistinct, c_TooLong, c_BadRing, c_BadHeight, c_BadTolerance, c_BadTurns, c_Restless, c_BadEdit, c_Rejected, c_BadText, c_NoIndex, c_NoPlace, c_NoVersion, c_RingError].map (fun D => PySem.W.kitOne K (.ref D) (.ref c_NothingToUndo)) = bs_NothingToUndo.map some
  kv_OutOfRange : [c_LastPlace, c_OutOfRange, c_TooManyEdits, c_NothingToUndo, c_BadEdits, c_NotDistinct, c_TooLong, c_BadRing, c_BadHeight, c_BadTolerance, c_BadTurns, c_Restless, c_BadEdit, c_Rejected, c_BadText, c_NoIndex, c_NoPlace, c_NoVersion, c_RingError].map (fun D => PySem.W.kitOne K (.ref D) (.ref c_OutOfRange)) = bs_OutOfRange.map some
  kv_Rejected : [c_LastPlace, c_OutOfRange, c_TooManyEdits, c_NothingToUndo, c_BadEdits, c_NotDistinct, c_TooLong, c_BadRing, c_BadHeight, c_BadTolerance, c_BadTurns, c_Restless, c_BadEdit, c_Rejected, c_BadText, c_NoIndex, c_NoPlace, c_NoVersion, c_RingError].map (fun D => PySem.W.kitOne K (.ref D) (.ref c_Rejected)) = bs_Rejected.map some
  kv_Restless : [c_LastPlace, c_OutOfRange, c_TooManyEdits, c_NothingToUndo, c_BadEdits, c_NotDistinct, c_TooLong, c_BadRing, c_BadHeight, c_BadTolerance, c_BadTurns, c_Restless, c_BadEdit, c_Rejected, c_BadText, c_NoIndex, c_NoPlace, c_NoVersion, c_RingError].map (fun D => PySem.W.kitOne K (.ref D) (.ref c_Restless)) = bs_Restless.map some
  kv_RingError : [c_LastPlace, c_OutOfRange, c_TooManyEdits, c_NothingToUndo, c_BadEdits, c_NotDistinct, c_TooLong, c_BadRing, c_BadHeight, c_BadTolerance, c_BadTurns, c_Restless, c_BadEdit, c_Rejected, c_BadText, c_NoIndex, c_NoPlace, c_NoVersion, c_RingError].map (fun D => PySem.W.kitOne K (.ref D) (.ref c_RingError)) = bs_RingError.map some
  kv_TooLong : [c_LastPlace, c_OutOfRange, c_TooManyEdits, c_NothingToUndo, c_BadEdits, c_NotDistinct, c_TooLong, c_BadRing, c_BadHeight, c_BadTolerance, c_BadTurns, c_Restless, c_BadEdit, c_Rejected, c_BadText, c_NoIndex, c_NoPlace, c_NoVersion, c_RingError].map (fun D => PySem.W.kitOne K (.ref D) (.ref c_TooLong)) = bs_TooLong.map some
  kv_TooManyEdits : [c_LastPlace, c_OutOfRange, c_TooManyEdits, c_NothingToUndo, c_BadEdits, c_NotDistinct, c_TooLong, c_BadRing, c_BadHeight, c_BadTolerance, c_BadTurns, c_Restless, c_BadEdit, c_Rejected, c_BadText, c_NoIndex, c_NoPlace, c_NoVersion, c_RingError].map (fun D => PySem.W.kitOne K (.ref D) (.ref c_TooManyEdits)) = bs_TooManyEdits.map some
  kv_ValueError : [c_LastPlace, c_OutOfRange, c_TooManyEdits, c_NothingToUndo, c_BadEdits, c_NotDistinct, c_TooLong, c_BadRing, c_BadHeight, c_BadTolerance, c_BadTurns, c_Restless, c_BadEdit, c_Rejected, c_BadText, c_NoIndex, c_NoPlace, c_NoVersion, c_RingError].map (fun D => PySem.W.kitOne K (.ref D) (.type "ValueError")) = bs_ValueError.map some
theorem Tx.xcs {K : PySem.W.Frag} {mg : Str → Option Value} (T : Tx K mg) : ∀ D ∈ [T.c_LastPlace, T.c_OutOfRange, T.c_TooManyEdits, T.c_NothingToUndo, T.c_BadEdits, T.c_NotDistinct, T.c_TooLong, T.c_BadRing, T.c_BadHeight, T.c_BadTolerance, T.c_BadTurns, T.c_Restless, T.c_BadEdit, T.c_Rejected, T.c_BadText, T.c_NoIndex, T.c_NoPlace, T.c_NoVersion, T.c_RingError], XC K D := by
  simp only [List.forall_mem_cons]
  exact ⟨T.xc_LastPlace, T.xc_OutOfRange, T.xc_TooManyEdits, T.xc_NothingToUndo, T.xc_BadEdits, T.xc_NotDistinct, T.xc_TooLong, T.xc_BadRing, T.xc_BadHeight, T.xc_BadTolerance, T.xc_BadTurns, T.xc_Restless, T.xc_BadEdit, T.xc_Rejected, T.xc_BadText, T.xc_NoIndex, T.xc_NoPlace, T.xc_NoVersion, T.xc_RingError, fun _ h => nomatch h⟩
theorem Tx.cl_Board {K : PySem.W.Frag} {mg : Str → Option Value} (T : Tx K mg) : Cls K T.oA_Board := T.oc_Board.cl
theorem Tx.cl_CalmBoard {K : PySem.W.Frag} {mg : Str → Option Value} (T : Tx K mg) : Cls K T.oA_CalmBoard := T.oc_CalmBoard.cl
section
variable {P : Program} {w : World} {K : PySem.W.Frag} {mg : Str → Option Value} {base : Heap}
theorem okI_BadEdit (T : Tx K mg) : FnOk P w K mg base CX0 1 T.fI_BadEdit T.fdI_BadEdit ["self", "index"] (spIniB T.c_BadEdit "index" [.type "ValueError", .type "Exception", .type "BaseException", .type "object"] "ValueError.__new__" K) := ok_iniB T.FI_BadEdit scI_BadEdit fun cdv A outer s H E => pss_one (ps_fst PySem.F.store_ValueError (pv 0) (pv 1))
theorem okI_BadHeight (T : Tx K mg) : FnOk P w K mg base CX0 1 T.fI_BadHeight T.fdI_BadHeight ["self", "value"] (spIniB T.c_BadHeight "value" [.type "ValueError", .type "Exception", .type "BaseException", .type "object"] "ValueError.__new__" K) := ok_iniB T.FI_BadHeight scI_BadHeight fun cdv A outer s H E => pss_one (ps_fst PySem.F.store_ValueError (pv 0) (pv 1))
theorem okI_BadRing (T : Tx K mg) : FnOk P w K mg base CX0 1 T.fI_BadRing T.fdI_BadRing ["self", "error"] (spIniB T.c_BadRing "error" [.type "ValueError", .type "Exception", .type "BaseException", .type "object"] "ValueError.__new__" K) := ok_iniB T.FI_BadRing scI_BadRing fun cdv A outer s H E => pss_one (ps_fst PySem.F.store_ValueError (pv 0) (pv 1))
theorem okI_BadText (T : Tx K mg) : FnOk P w K mg base CX0 1 T.fI_BadText T.fdI_BadText ["self", "index"] (spIniB T.c_BadText "index" [.type "ValueError", .type "Exception", .type "BaseException", .type "object"] "ValueError.__new__" K) := ok_iniB T.FI_BadText scI_BadText fun cdv A outer s H E => pss_one (ps_fst PySem.F.store_ValueError (pv 0) (pv 1))
theorem okI_BadTolerance (T : Tx K mg) : FnOk P w K mg base CX0 1 T.fI_BadTolerance T.fdI_BadTolerance ["self", "value"] (spIniB T.c_BadTolerance "value" [.type "ValueError", .type "Exception", .type "BaseException", .type "object"] "ValueError.__new__" K) := ok_iniB T.FI_BadTolerance scI_BadTolerance fun cdv A outer s H E => pss_one (ps_fst PySem.F.store_ValueError (pv 0) (pv 1))
theorem okI_BadTurns (T : Tx K mg) : FnOk P w K mg base CX0 1 T.fI_BadTurns T.fdI_BadTurns ["self", "value"] (spIniB T.c_BadTurns "value" [.type "ValueError", .type "Exception", .type "BaseException", .type "object"] "ValueError.__new__" K) := ok_iniB T.FI_BadTurns scI_BadTurns fun cdv A outer s H E => pss_one (ps_fst PySem.F.store_ValueError (pv 0) (pv 1))
theorem okI_NoIndex (T : Tx K mg) : FnOk P w K mg base CX0 1 T.fI_NoIndex T.fdI_NoIndex ["self", "value"] (spIniB T.c_NoIndex "value" [.type "LookupError", .type "Exception", .type "BaseException", .type "object"] "LookupError.__new__" K) := ok_iniB T.FI_NoIndex scI_NoIndex fun cdv A outer s H E => pss_one (ps_fst PySem.F.store_LookupError (pv 0) (pv 1))
theorem okI_NoPlace (T : Tx K mg) : FnOk P w K mg base CX0 1 T.fI_NoPlace T.fdI_NoPlace ["self", "value"] (spIniB T.c_NoPlace "value" [.type "LookupError", .type "Exception", .type "BaseException", .type "object"] "LookupError.__new__" K) := ok_iniB T.FI_NoPlace scI_NoPlace fun cdv A outer s H E => pss_one (ps_fst PySem.F.store_LookupError (pv 0) (pv 1))
theorem okI_NoVersion (T : Tx K mg) : FnOk P w K mg base CX0 1 T.fI_NoVersion T.fdI_NoVersion ["self", "value"] (spIniB T.c_NoVersion "value" [.type "LookupError", .type "Exception", .type "BaseException", .type "object"] "LookupError.__new__" K) := ok_iniB T.FI_NoVersion scI_NoVersion fun cdv A outer s H E => pss_one (ps_fst PySem.F.store_LookupError (pv 0) (pv 1))
theorem okI_NotDistinct (T : Tx K mg) : FnOk P w K mg base CX0 1 T.fI_NotDistinct T.fdI_NotDistinct ["self", "height"] (spIniB T.c_NotDistinct "height" [.type "ValueError", .type "Exception", .type "BaseException", .type "object"] "ValueError.__new__" K) := ok_iniB T.FI_NotDistinct scI_NotDistinct fun cdv A outer s H E => pss_one (ps_fst PySem.F.store_ValueError (pv 0) (pv 1))
theorem okI_Rejected (T : Tx K mg) : FnOk P w K mg base CX0 1 T.fI_Rejected T.fdI_Rejected ["self", "index"] (spIniB T.c_Rejected "index" [.type "ValueError", .type "Exception", .type "BaseException", .type "object"] "ValueError.__new__" K) := ok_iniB T.FI_Rejected scI_Rejected fun cdv A outer s H E => pss_one (ps_fst PySem.F.store_ValueError (pv 0) (pv 1))
theorem okI_Restless (T : Tx K mg) : FnOk P w K mg base CX0 1 T.fI_Restless T.fdI_Restless ["self", "number"] (spIniB T.c_Restless "number" [.type "ValueError", .type "Exception", .type "BaseException", .type "object"] "ValueError.__new__" K) := ok_iniB T.FI_Restless scI_Restless fun cdv A outer s H E => pss_one (ps_fst PySem.F.store_ValueError (pv 0) (pv 1))
theorem okI_TooLong (T : Tx K mg) : FnOk P w K mg base CX0 1 T.fI_TooLong T.fdI_TooLong ["self", "bound"] (spIniB T.c_TooLong "bound" [.type "ValueError", .type "Exception", .type "BaseException", .type "object"] "ValueError.__new__" K) := ok_iniB T.FI_TooLong scI_TooLong fun cdv A outer s H E => pss_one (ps_fst PySem.F.store_ValueError (pv 0) (pv 1))
theorem ok_is_number (T : Tx K mg)
    (sem : ∀ {ds : List D} {M : Mem} {P : DK}, g_is_number ds M P → ds.length = 1 ∧ w_is_number (ends P) (ds.map some ++ List.replicate (1 - ds.length) none) M) :
    FnG P w K mg base CX0 1 T.f_is_number T.fd_is_number ["value"] (spD K g_is_number) :=
  okD (k := 0) T.F_is_number sc_is_number (fun ds M P h => (sem h).1) (fun cdv A outer s H E hgd hr => ⟨w_is_number, ds_one (ds_ret (de_and (de_callB cd_isinstance (by rfl) T.m_isinstance (by decide +kernel) (da_cons (de_name (pv 0)) (da_cons (de_ty (pe_bltn (by rfl) T.m_int (by decide +kernel) rfl)) (da_nil)))) (de_one (de_not (de_callB cd_isinstance (by rfl) T.m_isinstance (by decide +kernel) (da_cons (de_name (pv 0)) (da_cons (de_ty (pe_bltn (by rfl) T.m_bool (by decide +kernel) rfl)) (da_nil)))))))), fun ds M P h => (sem h).2⟩)
theorem ok_is_height (T : Tx K mg) (G_is_number : FnG P w K mg base CX0 1 T.f_is_number T.fd_is_number ["value"] (spD K g_is_number))
    (sem : ∀ {ds : List D} {M : Mem} {P : DK}, g_is_height ds M P → ds.length = 1 ∧ w_is_height (ends P) (ds.map some ++ List.replicate (1 - ds.length) none) M) :
    FnG P w K mg base CX0 2 T.f_is_height T.fd_is_height ["value"] (spD K g_is_height) :=
  okD (k := 1) T.F_is_height sc_is_height (fun ds M P h => (sem h).1) (fun cdv A outer s H E hgd hr => ⟨w_is_height, ds_one (ds_ret (de_and (de_call hgd (G_is_number.mono (by decide)) hr (by rfl) T.g_is_number T.F_is_number.kp T.b_is_number pass0 (da_cons (de_name (pv 0)) (da_nil))) (de_one (de_chain od_le od_le (de_un ud_neg (de_c (v := .int 1000000000) (pe_glob (by rfl) T.m_LIMIT ⟨_, rfl⟩) (fun _ => .int _))) (de_name (pv 0)) (de_c (v := .int 1000000000) (pe_glob (by rfl) T.m_LIMIT ⟨_, rfl⟩) (fun _ => .int _)))))), fun ds M P h => (sem h).2⟩)
theorem ok_is_tolerance (T : Tx K mg) (G_is_number : FnG P w K mg base CX0 1 T.f_is_number T.fd_is_number ["value"] (spD K g_is_number))
    (sem : ∀ {ds : List D} {M : Mem} {P : DK}, gZ_is_tolerance ds M P → ds.length = 1 ∧ wZ_is_tolerance (ends P) (ds.map some ++ List.replicate (1 - ds.length) none) M) :
    FnG P w K mg base CX0 2 T.f_is_tolerance T.fd_is_tolerance ["value"] (spD K gZ_is_tolerance) :=
  okD (k := 1) T.F_is_tolerance sc_is_tolerance (fun ds M P h => (sem h).1) (fun cdv A outer s H E hgd hr => ⟨wZ_is_tolerance, ds_one (ds_ret (de_and (de_call hgd (G_is_number.mono (by decide)) hr (by rfl) T.g_is_number T.F_is_number.kp T.b_is_number pass0 (da_cons (de_name (pv 0)) (da_nil))) (de_one (de_chain od_le od_le (de_int) (de_name (pv 0)) (de_c (v := .int 1000000000) (pe_glob (by rfl) T.m_LIMIT ⟨_, rfl⟩) (fun _ => .int _)))))), fun ds M P h => (sem h).2⟩)
theorem ok_ring_error (T : Tx K mg) (G_is_height : FnG P w K mg base CX0 2 T.f_is_height T.fd_is_height ["value"] (spD K g_is_height))
    (sem : ∀ {ds : List D} {M : Mem} {P : DK}, g_ring_error ds M P → ds.length = 1 ∧ w_ring_error (ends P) (ds.map some ++ List.replicate (3 - ds.length) none) M) :
    FnG P w K mg base CX0 3 T.f_ring_error T.fd_ring_error ["value"] (spD K g_ring_error) :=
  okD (k := 2) T.F_ring_error sc_ring_error (fun ds M P h => (sem h).1) (fun cdv A outer s H E hgd hr => ⟨w_ring_error, ds_cons (ds_if (dt_not (dt_val (de_callB cd_isinstance (by rfl) T.m_isinstance (by decide +kernel) (da_cons (de_name (pv 0)) (da_cons (de_ty (pe_bltn (by rfl) T.m_tuple (by decide +kernel) rfl)) (da_nil)))))) (ds_one (ds_ret (de_tup (da_cons (de_non) (da_cons (de_str) (da_nil)))))) (ds_nil)) (ds_cons (ds_if (dt_not (dt_chain od_le od_le (de_int) (de_callB cd_len (by rfl) T.m_len (by decide +kernel) (da_cons (de_name (pv 0)) (da_nil))) (de_c (v := .int 24) (pe_glob (by rfl) T.m_MAX_LENGTH ⟨_, rfl⟩) (fun _ => .int _)))) (ds_one (ds_ret (de_tup (da_cons (de_non) (da_cons (de_str) (da_nil)))))) (ds_nil)) (ds_cons (ds_for (ps_for (g := tgT K (Tg.tp [Tg.nm 1, Tg.nm 2])) PassesOwn.never rfl (di_enumT (by rfl) T.m_enumerate (da_cons (de_name (pv 0)) (da_nil))) (pg_sq rfl (pgs_cons (pg_name (i := 1) sc_ring_error.nd rfl (.inl rfl)) (pgs_cons (pg_name (i := 2) sc_ring_error.nd rfl (.inl rfl)) (pgs_nil)))) (ds_one (ds_if (dt_not (dt_val (de_call hgd (G_is_height.mono (by decide)) hr (by rfl) T.g_is_height T.F_is_height.kp T.b_is_height pass0 (da_cons (de_name (pv 2)) (da_nil))))) (ds_one (ds_ret (de_tup (da_cons (de_name (pv 1)) (da_cons (de_str) (da_nil)))))) (ds_nil))))) (ds_one (ds_ret (de_non))))), fun ds M P h => (sem h).2⟩)
theorem ok_heights_after (T : Tx K mg)
    (sem : ∀ {ds : List D} {M : Mem} {P : DK}, g_heights_after ds M P → ds.length = 2 ∧ w_heights_after (ends P) (ds.map some ++ List.replicate (2 - ds.length) none) M) :
    FnG P w K mg base CX0 1 T.f_heights_after T.fd_heights_after ["ring", "place"] (spD K g_heights_after) :=
  okD (k := 0) T.F_heights_after sc_heights_after (fun ds M P h => (sem h).1) (fun cdv A outer s H E hgd hr => ⟨w_heights_after, ds_one (ds_ret (de_op od_add (de_slice (de_name (pv 0)) (do_some (de_op od_add (de_name (pv 1)) (de_int))) (do_none)) (de_slice (de_name (pv 0)) (do_none) (do_some (de_name (pv 1)))))), fun ds M P h => (sem h).2⟩)
theorem ok_next_other_height (T : Tx K mg) (G_heights_after : FnG P w K mg base CX0 1 T.f_heights_after T.fd_heights_after ["ring", "place"] (spD K g_heights_after))
    (sem : ∀ {ds : List D} {M : Mem} {P : DK}, g_next_other_height ds M P → ds.length = 2 ∧ w_next_other_height (ends P) (ds.map some ++ List.replicate (3 - ds.length) none) M) :
    FnG P w K mg base CX0 2 T.f_next_other_height T.fd_next_other_height ["ring", "place"] (spD K g_next_other_height) :=
  okD (k := 1) T.F_next_other_height sc_next_other_height (fun ds M P h => (sem h).1) (fun cdv A outer s H E hgd hr => ⟨w_next_other_height, ds_cons (ds_for (ps_for (g := tgT K (Tg.nm 2)) PassesOwn.never rfl (di_seq (de_call hgd (G_heights_after.mono (by decide)) hr (by rfl) T.g_heights_after T.F_heights_after.kp T.b_heights_after pass0 (da_cons (de_name (pv 0)) (da_cons (de_name (pv 1)) (da_nil))))) (pg_name (i := 2) sc_next_other_height.nd rfl (.inl rfl)) (ds_one (ds_if (dt_cmp (od_ne hr.units) (de_name (pv 2)) (de_ix xd_ix (de_name (pv 0)) (de_name (pv 1)) (fun _ _ => rfl)) (nomark _)) (ds_one (ds_ret (de_name (pv 2)))) (ds_nil))))) (ds_one (ds_ret (de_ix xd_ix (de_name (pv 0)) (de_name (pv 1)) (fun _ _ => rfl)))), fun ds M P h => (sem h).2⟩)
theorem ok_is_turn (T : Tx K mg) (G_next_other_height : FnG P w K mg base CX0 2 T.f_next_other_height T.fd_next_other_height ["ring", "place"] (spD K g_next_other_height))
    (sem : ∀ {ds : List D} {M : Mem} {P : DK}, g_is_turn ds M P → ds.length = 2 ∧ w_is_turn (ends P) (ds.map some ++ List.replicate (4 - ds.length) none) M) :
    FnG P w K mg base CX0 3 T.f_is_turn T.fd_is_turn ["ring", "place"] (spD K g_is_turn) :=
  okD (k := 2) T.F_is_turn sc_is_turn (fun ds M P h => (sem h).1) (fun cdv A outer s H E hgd hr => ⟨w_is_turn, ds_cons (ds_set (ps_set (i := 2) sc_is_turn.nd rfl (.inl rfl) (de_ix xd_ix (de_name (pv 0)) (de_name (pv 1)) (fun _ _ => rfl)))) (ds_cons (ds_set (ps_set (i := 3) sc_is_turn.nd rfl (.inl rfl) (de_ix xd_ix (de_name (pv 0)) (de_op od_sub (de_name (pv 1)) (de_int)) (fun _ _ => rfl)))) (ds_cons (ds_if (dt_cmp (od_eq hr.units) (de_name (pv 3)) (de_name (pv 2)) (nomark _)) (ds_one (ds_ret (de_bl))) (ds_nil)) (ds_one (ds_ret (de_cmp (od_eq hr.units) (de_cmp od_lt (de_name (pv 3)) (de_name (pv 2)) (nomark _)) (de_cmp od_lt (de_call hgd (G_next_other_height.mono (by decide)) hr (by rfl) T.g_next_other_height T.F_next_other_height.kp T.b_next_other_height pass0 (da_cons (de_name (pv 0)) (da_cons (de_name (pv 1)) (da_nil)))) (de_name (pv 2)) (nomark _)) (nomark _)))))), fun ds M P h => (sem h).2⟩)
theorem ok_turning_places (T : Tx K mg) (G_is_turn : FnG P w K mg base CX0 3 T.f_is_turn T.fd_is_turn ["ring", "place"] (spD K g_is_turn))
    (sem : ∀ {ds : List D} {M : Mem} {P : DK}, g_turning_places ds M P → ds.length = 1 ∧ w_turning_places (ends P) (ds.map some ++ List.replicate (2 - ds.length) none) M) :
    FnG P w K mg base CX0 4 T.f_turning_places T.fd_turning_places ["ring"] (spD K g_turning_places) :=
  okD (k := 3) T.F_turning_places sc_turning_places (fun ds M P h => (sem h).1) (fun cdv A outer s H E hgd hr => ⟨w_turning_places, ds_one (ds_ret (de_callTy cd_tuple (by rfl) T.m_tuple (by decide +kernel) (da_cons (de_lc (pe_lc (own := [("place", 1)]) (g := tgT K (Tg.nm 1)) (tt := liftT K (wTru (wN g_is_turn (wCons (wName 0) (wCons (wName 1) (wNil)))))) (te := lift K (wName 1)) rfl sc_turning_places.nd (di_range1 (by rfl) T.m_range (da_cons (de_callB cd_len (by rfl) T.m_len (by decide +kernel) (da_cons (de_name (pv 0)) (da_nil))) (da_nil))) (blkOk_by (own := [("place", 1)]) (N := n_turning_places) (sc := defScope s_turning_places) (by decide +kernel)) (fun _ _ _ _ _ => pg_name (i := 1) sc_turning_places.nd rfl (Or.inl rfl)) (fun _ _ _ _ _ => dts_one (dt_val (de_call hgd (G_is_turn.mono (by decide)) hr (by rfl) T.g_is_turn T.F_is_turn.kp T.b_is_turn pass0 (da_cons (de_name (pv 0)) (da_cons (de_name (pv 1)) (da_nil)))))) (fun _ _ _ _ _ => de_name (pv 1)))) (da_nil)))), fun ds M P h => (sem h).2⟩)
theorem ok_valley_first (T : Tx K mg)
    (sem : ∀ {ds : List D} {M : Mem} {P : DK}, g_valley_first ds M P → ds.length = 3 ∧ w_valley_first (ends P) (ds.map some ++ List.replicate (3 - ds.length) none) M) :
    FnG P w K mg base CX0 1 T.f_valley_first T.fd_valley_first ["ring", "turn", "neighbour"] (spD K g_valley_first) :=
  okD (k := 0) T.F_valley_first sc_valley_first (fun ds M P h => (sem h).1) (fun cdv A outer s H E hgd hr => ⟨w_valley_first, ds_one (ds_ret (de_ifExp (dt_cmp od_lt (de_ix xd_ix (de_name (pv 0)) (de_name (pv 1)) (fun _ _ => rfl)) (de_ix xd_ix (de_name (pv 0)) (de_name (pv 2)) (fun _ _ => rfl)) (nomark _)) (de_tup (da_cons (de_name (pv 1)) (da_cons (de_name (pv 2)) (da_nil)))) (de_tup (da_cons (de_name (pv 2)) (da_cons (de_name (pv 1)) (da_nil)))))), fun ds M P h => (sem h).2⟩)
theorem ok_flattest_pair (T : Tx K mg) (G_valley_first : FnG P w K mg base CX0 1 T.f_valley_first T.fd_valley_first ["ring", "turn", "neighbour"] (spD K g_valley_first))
    (sem : ∀ {ds : List D} {M : Mem} {P : DK}, g_flattest_pair ds M P → ds.length = 2 ∧ w_flattest_pair (ends P) (ds.map some ++ List.replicate (6 - ds.length) none) M) :
    FnG P w K mg base CX0 2 T.f_flattest_pair T.fd_flattest_pair ["ring", "left"] (spD K g_flattest_pair) :=
  okD (k := 1) T.F_flattest_pair sc_flattest_pair (fun ds M P h => (sem h).1) (fun cdv A outer s H E hgd hr => ⟨w_flattest_pair, ds_cons (ds_setLc (ps_setLc (i := 2) (own := [("index", 4), ("turn", 5)]) (g := tgT K (Tg.tp [Tg.nm 4, Tg.nm 5])) (tt := liftT K (wYes)) (te := lift K (wN absD (wCons (wOp subD (wOp ixD (wName 0) (wName 5)) (wOp ixD (wName 0) (wOp ixD (wName 1) (wOp subD (wName 4) (wC (.int 1)))))) (wNil)))) rfl sc_flattest_pair.nd rfl rfl (sw_true rfl rfl rfl (by decide +kernel)) (di_enumT (by rfl) T.m_enumerate (da_cons (de_name (pv 1)) (da_nil))) (blkOk_by (own := [("index", 4), ("turn", 5)]) (N := n_flattest_pair) (sc := defScope s_flattest_pair) (by decide +kernel)) (fun _ _ _ _ _ => pg_sq rfl (pgs_cons (pg_name (i := 4) sc_flattest_pair.nd rfl (Or.inl rfl)) (pgs_cons (pg_name (i := 5) sc_flattest_pair.nd rfl (Or.inl rfl)) (pgs_nil)))) (fun _ _ _ _ _ => dts_nil) (fun _ _ _ _ _ => de_callB cd_abs (by rfl) T.m_abs (by decide +kernel) (da_cons (de_op od_sub (de_ix xd_ix (de_name (pv 0)) (de_name (pv 5)) (fun _ _ => rfl)) (de_ix xd_ix (de_name (pv 0)) (de_ix xd_ix (de_name (pv 1)) (de_op od_sub (de_name (pv 4)) (de_int)) (fun _ _ => rfl)) (fun _ _ => rfl))) (da_nil))))) (ds_cons (ds_set (ps_set (i := 3) sc_flattest_pair.nd rfl (.inl rfl) (de_idx (pe_bm PySem.F.plainAttrs_list PySem.F.slot_list_index PySem.F.type_list_index (mt_indexD (units65 hr)) (de_name (pv 2)) (pa_cons (de_callB (cd_min (by rfl)) (by rfl) T.m_min (by decide +kernel) (da_cons (de_name (pv 2)) (da_nil))) pa_nil))))) (ds_one (ds_ret (de_call hgd (G_valley_first.mono (by decide)) hr (by rfl) T.g_valley_first T.F_valley_first.kp T.b_valley_first pass0 (da_cons (de_name (pv 0)) (da_cons (de_ix xd_ix (de_name (pv 1)) (de_op od_sub (de_name (pv 3)) (de_int)) (fun _ _ => rfl)) (da_cons (de_ix xd_ix (de_name (pv 1)) (de_name (pv 3)) (fun _ _ => rfl)) (da_nil)))))))), fun ds M P h => (sem h).2⟩)
theorem ok_without_pair (T : Tx K mg)
    (sem : ∀ {ds : List D} {M : Mem} {P : DK}, g_without_pair ds M P → ds.length = 2 ∧ w_without_pair (ends P) (ds.map some ++ List.replicate (3 - ds.length) none) M) :
    FnG P w K mg base CX0 1 T.f_without_pair T.fd_without_pair ["left", "pair"] (spD K g_without_pair) :=
  okD (k := 0) T.F_without_pair sc_without_pair (fun ds M P h => (sem h).1) (fun cdv A outer s H E hgd hr => ⟨w_without_pair, ds_one (ds_ret (de_callTy cd_tuple (by rfl) T.m_tuple (by decide +kernel) (da_cons (de_lc (pe_lc (own := [("turn", 2)]) (g := tgT K (Tg.nm 2)) (tt := liftT K (wCmpT notinD (wName 2) (wName 1))) (te := lift K (wName 2)) rfl sc_without_pair.nd (di_seq (de_name (pv 0))) (blkOk_by (own := [("turn", 2)]) (N := n_without_pair) (sc := defScope s_without_pair) (by decide +kernel)) (fun _ _ _ _ _ => pg_name (i := 2) sc_without_pair.nd rfl (Or.inl rfl)) (fun _ _ _ _ _ => dts_one (dt_cmp (od_notin (units65 hr)) (de_name (pv 2)) (de_name (pv 1)) (by rfl))) (fun _ _ _ _ _ => de_name (pv 2)))) (da_nil)))), fun ds M P h => (sem h).2⟩)
theorem ok_find_removal (T : Tx K mg) (G_turning_places : FnG P w K mg base CX0 4 T.f_turning_places T.fd_turning_places ["ring"] (spD K g_turning_places)) (G_flattest_pair : FnG P w K mg base CX0 2 T.f_flattest_pair T.fd_flattest_pair ["ring", "left"] (spD K g_flattest_pair)) (G_without_pair : FnG P w K mg base CX0 1 T.f_without_pair T.fd_without_pair ["left", "pair"] (spD K g_without_pair))
    (sem : ∀ {ds : List D} {M : Mem} {P : DK}, g_find_removal ds M P → ds.length = 1 ∧ w_find_removal (endsS P) (ds.map some ++ List.replicate (4 - ds.length) none) M) :
    FnG P w K mg base CX0 5 T.f_find_removal T.fd_find_removal ["ring"] (spD K g_find_removal) :=
  okDs (k := 4) T.F_find_removal sc_find_removal (fun ds M P h => (sem h).1) (fun cdv A outer s H E hgd hr => ⟨w_find_removal, ds_cons (ds_set (ps_set (i := 1) sc_find_removal.nd rfl (.inl rfl) (de_call hgd (G_turning_places.mono (by decide)) hr (by rfl) T.g_turning_places T.F_turning_places.kp T.b_turning_places pass0 (da_cons (de_name (pv 0)) (da_nil))))) (ds_cons (ds_setOwn (ps_set (i := 2) sc_find_removal.nd rfl (.inl rfl) (deo_lst (da_nil)))) (ds_cons (ds_while (ps_while PassesOwn.never (dt_val (de_name (pv 1))) (ds_cons (ds_set (ps_set (i := 3) sc_find_removal.nd rfl (.inl rfl) (de_call hgd (G_flattest_pair.mono (by decide)) hr (by rfl) T.g_flattest_pair T.F_flattest_pair.kp T.b_flattest_pair pass0 (da_cons (de_name (pv 0)) (da_cons (de_name (pv 1)) (da_nil)))))) (ds_cons (ds_expr (de_app (pe_bm PySem.F.plainAttrs_list PySem.F.slot_list_append PySem.F.type_list_append mt_append (de_name (pv 2)) (pa_cons (de_name (pv 3)) pa_nil)))) (ds_one (ds_set (ps_set (i := 1) sc_find_removal.nd rfl (.inl rfl) (de_call hgd (G_without_pair.mono (by decide)) hr (by rfl) T.g_without_pair T.F_without_pair.kp T.b_without_pair pass0 (da_cons (de_name (pv 1)) (da_cons (de_name (pv 3)) (da_nil))))))))))) (ds_one (ds_ret (de_callTy cd_tuple (by rfl) T.m_tuple (by decide +kernel) (da_cons (de_name (pv 2)) (da_nil))))))), fun ds M P h => (sem h).2⟩)
theorem ok_swings_of (T : Tx K mg) (G_find_removal : FnG P w K mg base CX0 5 T.f_find_removal T.fd_find_removal ["ring"] (spD K g_find_removal))
    (sem : ∀ {ds : List D} {M : Mem} {P : DK}, g_swings_of ds M P → ds.length = 1 ∧ w_swings_of (ends P) (ds.map some ++ List.replicate (3 - ds.length) none) M) :
    FnG P w K mg base CX0 6 T.f_swings_of T.fd_swings_of ["ring"] (spD K g_swings_of) :=
  okD (k := 5) T.F_swings_of sc_swings_of (fun ds M P h => (sem h).1) (fun cdv A outer s H E hgd hr => ⟨w_swings_of, ds_one (ds_ret (de_callTy cd_tuple (by rfl) T.m_tuple (by decide +kernel) (da_cons (de_callB cd_sorted (by rfl) T.m_sorted (by decide +kernel) (da_cons (de_lc (pe_lc (own := [("valley", 1), ("peak", 2)]) (g := tgT K (Tg.tp [Tg.nm 1, Tg.nm 2])) (tt := liftT K (wYes)) (te := lift K (wN gTupN (wCons (wOp ixD (wName 0) (wName 1)) (wCons (wOp ixD (wName 0) (wName 2)) (wNil))))) rfl sc_swings_of.nd (di_seq (de_call hgd (G_find_removal.mono (by decide)) hr (by rfl) T.g_find_removal T.F_find_removal.kp T.b_find_removal pass0 (da_cons (de_name (pv 0)) (da_nil)))) (blkOk_by (own := [("valley", 1), ("peak", 2)]) (N := n_swings_of) (sc := defScope s_swings_of) (by decide +kernel)) (fun _ _ _ _ _ => pg_sq rfl (pgs_cons (pg_name (i := 1) sc_swings_of.nd rfl (Or.inl rfl)) (pgs_cons (pg_name (i := 2) sc_swings_of.nd rfl (Or.inl rfl)) (pgs_nil)))) (fun _ _ _ _ _ => dts_nil) (fun _ _ _ _ _ => de_tup (da_cons (de_ix xd_ix (de_name (pv 0)) (de_name (pv 1)) (fun _ _ => rfl)) (da_cons (de_ix xd_ix (de_name (pv 0)) (de_name (pv 2)) (fun _ _ => rfl)) (da_nil)))))) (da_nil))) (da_nil)))), fun ds M P h => (sem h).2⟩)
theorem ok_set_height (T : Tx K mg)
    (sem : ∀ {ds : List D} {M : Mem} {P : DK}, g_set_height ds M P → ds.length = 3 ∧ w_set_height (ends P) (ds.map some ++ List.replicate (3 - ds.length) none) M) :
    FnG P w K mg base CX0 1 T.f_set_height T.fd_set_height ["ring", "place", "height"] (spD K g_set_height) :=
  okD (k := 0) T.F_set_height sc_set_height (fun ds M P h => (sem h).1) (fun cdv A outer s H E hgd hr => ⟨w_set_height, ds_one (ds_ret (de_op od_add (de_op od_add (de_slice (de_name (pv 0)) (do_none) (do_some (de_name (pv 1)))) (de_tup (da_cons (de_name (pv 2)) (da_nil)))) (de_slice (de_name (pv 0)) (do_some (de_op od_add (de_name (pv 1)) (de_int))) (do_none)))), fun ds M P h => (sem h).2⟩)
theorem ok_insert_height (T : Tx K mg) (GI_TooLong : FnOk P w K mg base CX0 1 T.fI_TooLong T.fdI_TooLong ["self", "bound"] (spIniB T.c_TooLong "bound" [.type "ValueError", .type "Exception", .type "BaseException", .type "object"] "ValueError.__new__" K))
    (sem : ∀ {ds : List D} {M : Mem} {P : DK} {PX : DXK}, gZ_insert_height ds M P PX → ds.length = 3 ∧ wZ_insert_height (endsX P PX) (ds.map some ++ List.replicate (3 - ds.length) none) M) :
    FnG P w K mg base (L2.CX P w) 3 T.f_insert_height T.fd_insert_height ["ring", "place", "height"] (spX K T.ct gZ_insert_height) :=
  okDX (k := 2) T.F_insert_height sc_insert_height (fun ds M P PX h => (sem h).1) (fun cdv A outer s H E hgd hr => ⟨wZ_insert_height, ds_cons (ds_if (dt_cmp od_ge (de_callB cd_len (by rfl) T.m_len (by decide +kernel) (da_cons (de_name (pv 0)) (da_nil))) (de_c (v := .int 24) (pe_glob (by rfl) T.m_MAX_LENGTH ⟨_, rfl⟩) (fun _ => .int _)) (nomark _)) (ds_one (ds_raiseB PySem.F.excBase_ValueError rfl (takes_of rfl rfl rfl rfl) (fun _ _ _ _ z => z) T.x_TooLong T.o_TooLong T.n_TooLong T.i_TooLong T.y_TooLong GI_TooLong (hr.mono (by decide)) T.bI_TooLong (by rfl) T.m_TooLong (de_c (v := .int 24) (pe_glob (by rfl) T.m_MAX_LENGTH ⟨_, rfl⟩) (fun _ => .int _)))) (ds_nil)) (ds_one (ds_ret (de_op od_add (de_op od_add (de_slice (de_name (pv 0)) (do_none) (do_some (de_name (pv 1)))) (de_tup (da_cons (de_name (pv 2)) (da_nil)))) (de_slice (de_name (pv 0)) (do_some (de_name (pv 1))) (do_none))))), fun ds M P PX h => (sem h).2⟩)
theorem ok_remove_place (T : Tx K mg)
    (sem : ∀ {ds : List D} {M : Mem} {P : DK} {PX : DXK}, gZ_remove_place ds M P PX → ds.length = 2 ∧ wZ_remove_place (endsX P PX) (ds.map some ++ List.replicate (2 - ds.length) none) M) :
    FnG P w K mg base (L2.CX P w) 1 T.f_remove_place T.fd_remove_place ["ring", "place"] (spX K T.ct gZ_remove_place) :=
  okDX (k := 0) T.F_remove_place sc_remove_place (fun ds M P PX h => (sem h).1) (fun cdv A outer s H E hgd hr => ⟨wZ_remove_place, ds_cons (ds_if (dt_cmp (od_eq hr.units) (de_callB cd_len (by rfl) T.m_len (by decide +kernel) (da_cons (de_name (pv 0)) (da_nil))) (de_int) (nomark _)) (ds_one (ds_raise0 rfl (takes_of rfl rfl rfl rfl) (fun _ _ _ _ z => z) T.x_LastPlace (pmk_own0 PySem.F.excBase_ValueError T.q_LastPlace T.m_LastPlace T.kc_LastPlace (raises_own T.xc_LastPlace.hs T.ty_LastPlace) (by rfl)))) (ds_nil)) (ds_one (ds_ret (de_op od_add (de_slice (de_name (pv 0)) (do_none) (do_some (de_name (pv 1)))) (de_slice (de_name (pv 0)) (do_some (de_op od_add (de_name (pv 1)) (de_int))) (do_none))))), fun ds M P PX h => (sem h).2⟩)
theorem ok_swing_ranges (T : Tx K mg) (G_swings_of : FnG P w K mg base CX0 6 T.f_swings_of T.fd_swings_of ["ring"] (spD K g_swings_of))
    (sem : ∀ {ds : List D} {M : Mem} {P : DK}, g_swing_ranges ds M P → ds.length = 1 ∧ w_swing_ranges (ends P) (ds.map some ++ List.replicate (3 - ds.length) none) M) :
    FnG P w K mg base CX0 7 T.f_swing_ranges T.fd_swing_ranges ["ring"] (spD K g_swing_ranges) :=
  okD (k := 6) T.F_swing_ranges sc_swing_ranges (fun ds M P h => (sem h).1) (fun cdv A outer s H E hgd hr => ⟨w_swing_ranges, ds_one (ds_ret (de_sortR (tk := tCons (tC (.bl true)) tNil) (pe_callBK cr_sortedRev (by rfl) T.m_sorted (by decide +kernel) (pa_cons (de_lc (pe_lc (own := [("low", 1), ("high", 2)]) (g := tgT K (Tg.tp [Tg.nm 1, Tg.nm 2])) (tt := liftT K (wYes)) (te := lift K (wOp subD (wName 2) (wName 1))) rfl sc_swing_ranges.nd (di_seq (de_call hgd (G_swings_of.mono (by decide)) hr (by rfl) T.g_swings_of T.F_swings_of.kp T.b_swings_of pass0 (da_cons (de_name (pv 0)) (da_nil)))) (blkOk_by (own := [("low", 1), ("high", 2)]) (N := n_swing_ranges) (sc := defScope s_swing_ranges) (by decide +kernel)) (fun _ _ _ _ _ => pg_sq rfl (pgs_cons (pg_name (i := 1) sc_swing_ranges.nd rfl (Or.inl rfl)) (pgs_cons (pg_name (i := 2) sc_swing_ranges.nd rfl (Or.inl rfl)) (pgs_nil)))) (fun _ _ _ _ _ => dts_nil) (fun _ _ _ _ _ => de_op od_sub (de_name (pv 2)) (de_name (pv 1))))) pa_nil) (pk_cons pe_bl pk_nil)))), fun ds M P h => (sem h).2⟩)
theorem ok_least_turns (T : Tx K mg) (G_swing_ranges : FnG P w K mg base CX0 7 T.f_swing_ranges T.fd_swing_ranges ["ring"] (spD K g_swing_ranges))
    (sem : ∀ {ds : List D} {M : Mem} {P : DK}, g_least_turns ds M P → ds.length = 2 ∧ w_least_turns (ends P) (ds.map some ++ List.replicate (3 - ds.length) none) M) :
    FnG P w K mg base CX0 8 T.f_least_turns T.fd_least_turns ["ring", "tolerance"] (spD K g_least_turns) :=
  okD (k := 7) T.F_least_turns sc_least_turns (fun ds M P h => (sem h).1) (fun cdv A outer s H E hgd hr => ⟨w_least_turns, ds_one (ds_ret (de_op od_mul (de_int) (de_callB cd_len (by rfl) T.m_len (by decide +kernel) (da_cons (de_lc (pe_lc (own := [("reach", 2)]) (g := tgT K (Tg.nm 2)) (tt := liftT K (wCmpT gtD (wName 2) (wOp mulD (wC (.int 2)) (wName 1)))) (te := lift K (wName 2)) rfl sc_least_turns.nd (di_seq (de_call hgd (G_swing_ranges.mono (by decide)) hr (by rfl) T.g_swing_ranges T.F_swing_ranges.kp T.b_swing_ranges pass0 (da_cons (de_name (pv 0)) (da_nil)))) (blkOk_by (own := [("reach", 2)]) (N := n_least_turns) (sc := defScope s_least_turns) (by decide +kernel)) (fun _ _ _ _ _ => pg_name (i := 2) sc_least_turns.nd rfl (Or.inl rfl)) (fun _ _ _ _ _ => dts_one (dt_cmp od_gt (de_name (pv 2)) (de_op od_mul (de_int) (de_name (pv 1))) (nomark _))) (fun _ _ _ _ _ => de_name (pv 2)))) (da_nil))))), fun ds M P h => (sem h).2⟩)
theorem ok_check_place (T : Tx K mg) (G_is_number : FnG P w K mg base CX0 1 T.f_is_number T.fd_is_number ["value"] (spD K g_is_number)) (GI_NoPlace : FnOk P w K mg base CX0 1 T.fI_NoPlace T.fdI_NoPlace ["self", "value"] (spIniB T.c_NoPlace "value" [.type "LookupError", .type "Exception", .type "BaseException", .type "object"] "LookupError.__new__" K))
    (sem : ∀ {ds : List D} {M : Mem} {P : DK} {PX : DXK}, gZ_check_place ds M P PX → ds.length = 2 ∧ wZ_check_place (endsX P PX) (ds.map some ++ List.replicate (2 - ds.length) none) M) :
    FnG P w K mg base (L2.CX P w) 3 T.f_check_place T.fd_check_place ["value", "count"] (spX K T.ct gZ_check_place) :=
  okDX (k := 2) T.F_check_place sc_check_place (fun ds M P PX h => (sem h).1) (fun cdv A outer s H E hgd hr => ⟨wZ_check_place, ds_one (ds_if (DTw.dt (dt_or (dt_not (dt_val (de_call hgd (G_is_number.mono (by decide)) hr (by rfl) T.g_is_number T.F_is_number.kp T.b_is_number pass0 (da_cons (de_name (pv 0)) (da_nil))))) (dt_or1 (dt_not (dt_chain od_le od_lt (de_int) (de_name (pv 0)) (de_name (pv 1))))))) (ds_one (ds_raiseB PySem.F.excBase_LookupError rfl (takes_of rfl rfl rfl rfl) (fun _ _ _ _ z => z) T.x_NoPlace T.o_NoPlace T.n_NoPlace T.i_NoPlace T.y_NoPlace GI_NoPlace (hr.mono (by decide)) T.bI_NoPlace (by rfl) T.m_NoPlace (de_name (pv 0)))) (ds_nil)), fun ds M P PX h => (sem h).2⟩)
theorem ok_check_height (T : Tx K mg) (G_is_height : FnG P w K mg base CX0 2 T.f_is_height T.fd_is_height ["value"] (spD K g_is_height)) (GI_BadHeight : FnOk P w K mg base CX0 1 T.fI_BadHeight T.fdI_BadHeight ["self", "value"] (spIniB T.c_BadHeight "value" [.type "ValueError", .type "Exception", .type "BaseException", .type "object"] "ValueError.__new__" K))
    (sem : ∀ {ds : List D} {M : Mem} {P : DK} {PX : DXK}, gZ_check_height ds M P PX → ds.length = 1 ∧ wZ_check_height (endsX P PX) (ds.map some ++ List.replicate (1 - ds.length) none) M) :
    FnG P w K mg base (L2.CX P w) 3 T.f_check_height T.fd_check_height ["value"] (spX K T.ct gZ_check_height) :=
  okDX (k := 2) T.F_check_height sc_check_height (fun ds M P PX h => (sem h).1) (fun cdv A outer s H E hgd hr => ⟨wZ_check_height, ds_one (ds_if (dt_not (dt_val (de_call hgd (G_is_height.mono (by decide)) hr (by rfl) T.g_is_height T.F_is_height.kp T.b_is_height pass0 (da_cons (de_name (pv 0)) (da_nil))))) (ds_one (ds_raiseB PySem.F.excBase_ValueError rfl (takes_of rfl rfl rfl rfl) (fun _ _ _ _ z => z) T.x_BadHeight T.o_BadHeight T.n_BadHeight T.i_BadHeight T.y_BadHeight GI_BadHeight (hr.mono (by decide)) T.bI_BadHeight (by rfl) T.m_BadHeight (de_name (pv 0)))) (ds_nil)), fun ds M P PX h => (sem h).2⟩)
theorem ok_check_tolerance (T : Tx K mg) (G_is_tolerance : FnG P w K mg base CX0 2 T.f_is_tolerance T.fd_is_tolerance ["value"] (spD K gZ_is_tolerance)) (GI_BadTolerance : FnOk P w K mg base CX0 1 T.fI_BadTolerance T.fdI_BadTolerance ["self", "value"] (spIniB T.c_BadTolerance "value" [.type "ValueError", .type "Exception", .type "BaseException", .type "object"] "ValueError.__new__" K))
    (sem : ∀ {ds : List D} {M : Mem} {P : DK} {PX : DXK}, gZ_check_tolerance ds M P PX → ds.length = 1 ∧ wZ_check_tolerance (endsX P PX) (ds.map some ++ List.replicate (1 - ds.length) none) M) :
    FnG P w K mg base (L2.CX P w) 3 T.f_check_tolerance T.fd_check_tolerance ["value"] (spX K T.ct gZ_check_tolerance) :=
  okDX (k := 2) T.F_check_tolerance sc_check_tolerance (fun ds M P PX h => (sem h).1) (fun cdv A outer s H E hgd hr => ⟨wZ_check_tolerance, ds_one (ds_if (dt_not (dt_val (de_call hgd (G_is_tolerance.mono (by decide)) hr (by rfl) T.g_is_tolerance T.F_is_tolerance.kp T.b_is_tolerance pass0 (da_cons (de_name (pv 0)) (da_nil))))) (ds_one (ds_raiseB PySem.F.excBase_ValueError rfl (takes_of rfl rfl rfl rfl) (fun _ _ _ _ z => z) T.x_BadTolerance T.o_BadTolerance T.n_BadTolerance T.i_BadTolerance T.y_BadTolerance GI_BadTolerance (hr.mono (by decide)) T.bI_BadTolerance (by rfl) T.m_BadTolerance (de_name (pv 0)))) (ds_nil)), fun ds M P PX h => (sem h).2⟩)
theorem ok_Board___init__ (T : Tx K mg) (G_ring_error : FnG P w K mg base CX0 3 T.f_ring_error T.fd_ring_error ["value"] (spD K g_ring_error))
    (sem : ∀ {ds : List D} {M : Mem} {P : DK}, (gZ_Board___init__ (okBC T.oA_Board T.oA_CalmBoard)) ds M P → ds.length = 2 ∧ (wZ_Board___init__ (okBC T.oA_Board T.oA_CalmBoard)) (ends P) (ds.map some ++ List.replicate (3 - ds.length) none) M) :
    FnG P w K mg base CX0 4 T.f_Board___init__ T.fd_Board___init__ ["self", "ring"] (spD K (gZ_Board___init__ (okBC T.oA_Board T.oA_CalmBoard))) :=
  okD (k := 3) T.F_Board___init__ sc_Board___init__ (fun ds M P h => (sem h).1) (fun cdv A outer s H E hgd hr => ⟨(wZ_Board___init__ (okBC T.oA_Board T.oA_CalmBoard)), ds_cons (ds_set (ps_set (i := 2) sc_Board___init__.nd rfl (.inl rfl) (de_call hgd (G_ring_error.mono (by decide)) hr (by rfl) T.g_ring_error T.F_ring_error.kp T.b_ring_error pass0 (da_cons (de_name (pv 1)) (da_nil))))) (ds_cons (ds_if (dt_cmp od_isNotN (de_name (pv 2)) (de_non) (nomark _)) (ds_one (ds_never)) (ds_nil)) (ds_cons (ds_setFld (fun C (hC : C = T.oA_Board ∨ C = T.oA_CalmBoard) => hC.elim (fun h => by subst h; exact ⟨T.cl_Board, T.na_Board_states⟩) (fun h => by subst h; exact ⟨T.cl_CalmBoard, T.na_CalmBoard_states⟩)) (ps_fld (de_name (pv 0)) (de_own (deo_lst (da_cons (de_name (pv 1)) (da_nil)))) rfl)) (ds_cons (ds_setFld (fun C (hC : C = T.oA_Board ∨ C = T.oA_CalmBoard) => hC.elim (fun h => by subst h; exact ⟨T.cl_Board, T.na_Board_standing⟩) (fun h => by subst h; exact ⟨T.cl_CalmBoard, T.na_CalmBoard_standing⟩)) (ps_fld (de_name (pv 0)) (de_own (deo_lst (da_nil))) rfl)) (ds_one (ds_setFld (fun C (hC : C = T.oA_Board ∨ C = T.oA_CalmBoard) => hC.elim (fun h => by subst h; exact ⟨T.cl_Board, T.na_Board_limits⟩) (fun h => by subst h; exact ⟨T.cl_CalmBoard, T.na_CalmBoard_limits⟩)) (ps_fld (de_name (pv 0)) (de_non) rfl)))))), fun ds M P h => (sem h).2⟩)
theorem ok_Board___len__ (T : Tx K mg)
    (sem : ∀ {ds : List D} {M : Mem} {P : DK}, (gZ_Board___len__ (okBC T.oA_Board T.oA_CalmBoard)) ds M P → ds.length = 1 ∧ (wZ_Board___len__ (okBC T.oA_Board T.oA_CalmBoard)) (ends P) (ds.map some ++ List.replicate (1 - ds.length) none) M) :
    FnG P w K mg base CX0 1 T.f_Board___len__ T.fd_Board___len__ ["self"] (spD K (gZ_Board___len__ (okBC T.oA_Board T.oA_CalmBoard))) :=
  okD (k := 0) T.F_Board___len__ sc_Board___len__ (fun ds M P h => (sem h).1) (fun cdv A outer s H E hgd hr => ⟨(wZ_Board___len__ (okBC T.oA_Board T.oA_CalmBoard)), ds_one (ds_ret (de_callB cd_len (by rfl) T.m_len (by decide +kernel) (da_cons (de_fld (fun C (hC : C = T.oA_Board ∨ C = T.oA_CalmBoard) => hC.elim (fun h => by subst h; exact ⟨T.cl_Board, T.na_Board_standing⟩) (fun h => by subst h; exact ⟨T.cl_CalmBoard, T.na_CalmBoard_standing⟩)) (pe_fld (de_name (pv 0)) rfl)) (da_nil)))), fun ds M P h => (sem h).2⟩)
theorem ok_Board_check_room (T : Tx K mg)
    (sem : ∀ {ds : List D} {M : Mem} {P : DK} {PX : DXK}, (gZ_Board_check_room (okBC T.oA_Board T.oA_CalmBoard)) ds M P PX → ds.length = 1 ∧ (wZ_Board_check_room (okBC T.oA_Board T.oA_CalmBoard)) (endsX P PX) (ds.map some ++ List.replicate (1 - ds.length) none) M) :
    FnG P w K mg base (L2.CX P w) 1 T.f_Board_check_room T.fd_Board_check_room ["self"] (spX K T.ct (gZ_Board_check_room (okBC T.oA_Board T.oA_CalmBoard))) :=
  okDX (k := 0) T.F_Board_check_room sc_Board_check_room (fun ds M P PX h => (sem h).1) (fun cdv A outer s H E hgd hr => ⟨(wZ_Board_check_room (okBC T.oA_Board T.oA_CalmBoard)), ds_one (ds_if (dt_cmp od_ge (de_callB cd_len (by rfl) T.m_len (by decide +kernel) (da_cons (de_fld (fun C (hC : C = T.oA_Board ∨ C = T.oA_CalmBoard) => hC.elim (fun h => by subst h; exact ⟨T.cl_Board, T.na_Board_standing⟩) (fun h => by subst h; exact ⟨T.cl_CalmBoard, T.na_CalmBoard_standing⟩)) (pe_fld (de_name (pv 0)) rfl)) (da_nil))) (de_c (v := .int 60) (pe_glob (by rfl) T.m_MAX_EDITS ⟨_, rfl⟩) (fun _ => .int _)) (nomark _)) (ds_one (ds_raise0 rfl (takes_of rfl rfl rfl rfl) (fun _ _ _ _ z => z) T.x_TooManyEdits (pmk_own0 PySem.F.excBase_ValueError T.q_TooManyEdits T.m_TooManyEdits T.kc_TooManyEdits (raises_own T.xc_TooManyEdits.hs T.ty_TooManyEdits) (by rfl)))) (ds_nil)), fun ds M P PX h => (sem h).2⟩)
theorem ok_Board_keep (T : Tx K mg)
    (sem : ∀ {ds : List D} {M : Mem} {P : DK} {PX : DXK}, (gZ_Board_keep (okBC T.oA_Board T.oA_CalmBoard)) ds M P PX → ds.length = 3 ∧ (wZ_Board_keep (okBC T.oA_Board T.oA_CalmBoard)) (endsX P PX) (ds.map some ++ List.replicate (3 - ds.length) none) M) :
    FnG P w K mg base (L2.CX P w) 1 T.f_Board_keep T.fd_Board_keep ["self", "edit", "ring"] (spX K T.ct (gZ_Board_keep (okBC T.oA_Board T.oA_CalmBoard))) :=
  okDX (k := 0) T.F_Board_keep sc_Board_keep (fun ds M P PX h => (sem h).1) (fun cdv A outer s H E hgd hr => ⟨(wZ_Board_keep (okBC T.oA_Board T.oA_CalmBoard)), ds_cons (ds_expr (de_app (pe_bm PySem.F.plainAttrs_list PySem.F.slot_list_append PySem.F.type_list_append mt_append (de_fld (fun C (hC : C = T.oA_Board ∨ C = T.oA_CalmBoard) => hC.elim (fun h => by subst h; exact ⟨T.cl_Board, T.na_Board_standing⟩) (fun h => by subst h; exact ⟨T.cl_CalmBoard, T.na_CalmBoard_standing⟩)) (pe_fld (de_name (pv 0)) rfl)) (pa_cons (de_name (pv 1)) pa_nil)))) (ds_cons (ds_expr (de_app (pe_bm PySem.F.plainAttrs_list PySem.F.slot_list_append PySem.F.type_list_append mt_append (de_fld (fun C (hC : C = T.oA_Board ∨ C = T.oA_CalmBoard) => hC.elim (fun h => by subst h; exact ⟨T.cl_Board, T.na_Board_states⟩) (fun h => by subst h; exact ⟨T.cl_CalmBoard, T.na_CalmBoard_states⟩)) (pe_fld (de_name (pv 0)) rfl)) (pa_cons (de_name (pv 2)) pa_nil)))) (ds_one (ds_ret (de_callB cd_len (by rfl) T.m_len (by decide +kernel) (da_cons (de_fld (fun C (hC : C = T.oA_Board ∨ C = T.oA_CalmBoard) => hC.elim (fun h => by subst h; exact ⟨T.cl_Board, T.na_Board_standing⟩) (fun h => by subst h; exact ⟨T.cl_CalmBoard, T.na_CalmBoard_standing⟩)) (pe_fld (de_name (pv 0)) rfl)) (da_nil)))))), fun ds M P PX h => (sem h).2⟩)
theorem ok_Board_ring (T : Tx K mg) (G_is_number : FnG P w K mg base CX0 1 T.f_is_number T.fd_is_number ["value"] (spD K g_is_number)) (GI_NoVersion : FnOk P w K mg base CX0 1 T.fI_NoVersion T.fdI_NoVersion ["self", "value"] (spIniB T.c_NoVersion "value" [.type "LookupError", .type "Exception", .type "BaseException", .type "object"] "LookupError.__new__" K))
    (sem : ∀ {ds : List D} {M : Mem} {P : DK} {PX : DXK}, (gZ_Board_ring (okBC T.oA_Board T.oA_CalmBoard)) ds M P PX → ds.length = 2 ∧ (wZ_Board_ring (okBC T.oA_Board T.oA_CalmBoard)) (endsX P PX) (ds.map some ++ List.replicate (2 - ds.length) none) M) :
    FnG P w K mg base (L2.CX P w) 3 T.f_Board_ring T.fd_Board_ring ["self", "version"] (spX K T.ct (gZ_Board_ring (okBC T.oA_Board T.oA_CalmBoard))) :=
  okDX (k := 2) T.F_Board_ring sc_Board_ring (fun ds M P PX h => (sem h).1) (fun cdv A outer s H E hgd hr => ⟨(wZ_Board_ring (okBC T.oA_Board T.oA_CalmBoard)), ds_cons (ds_if (dt_cmp od_isN (de_name (pv 1)) (de_non) (nomark _)) (ds_one (ds_ret (de_ix xd_ix (de_fld (fun C (hC : C = T.oA_Board ∨ C = T.oA_CalmBoard) => hC.elim (fun h => by subst h; exact ⟨T.cl_Board, T.na_Board_states⟩) (fun h => by subst h; exact ⟨T.cl_CalmBoard, T.na_CalmBoard_states⟩)) (pe_fld (de_name (pv 0)) rfl)) (de_un ud_neg (de_int)) (fun _ _ => rfl)))) (ds_nil)) (ds_cons (ds_if (DTw.dt (dt_or (dt_not (dt_val (de_call hgd (G_is_number.mono (by decide)) hr (by rfl) T.g_is_number T.F_is_number.kp T.b_is_number pass0 (da_cons (de_name (pv 1)) (da_nil))))) (dt_or1 (dt_not (dt_chain od_le od_le (de_int) (de_name (pv 1)) (de_callB cd_len (by rfl) T.m_len (by decide +kernel) (da_cons (de_fld (fun C (hC : C = T.oA_Board ∨ C = T.oA_CalmBoard) => hC.elim (fun h => by subst h; exact ⟨T.cl_Board, T.na_Board_standing⟩) (fun h => by subst h; exact ⟨T.cl_CalmBoard, T.na_CalmBoard_standing⟩)) (pe_fld (de_name (pv 0)) rfl)) (da_nil)))))))) (ds_one (ds_raiseB PySem.F.excBase_LookupError rfl (takes_of rfl rfl rfl rfl) (fun _ _ _ _ z => z) T.x_NoVersion T.o_NoVersion T.n_NoVersion T.i_NoVersion T.y_NoVersion GI_NoVersion (hr.mono (by decide)) T.bI_NoVersion (by rfl) T.m_NoVersion (de_name (pv 1)))) (ds_nil)) (ds_one (ds_ret (de_ix xd_ix (de_fld (fun C (hC : C = T.oA_Board ∨ C = T.oA_CalmBoard) => hC.elim (fun h => by subst h; exact ⟨T.cl_Board, T.na_Board_states⟩) (fun h => by subst h; exact ⟨T.cl_CalmBoard, T.na_CalmBoard_states⟩)) (pe_fld (de_name (pv 0)) rfl)) (de_name (pv 1)) (fun _ _ => rfl))))), fun ds M P PX h => (sem h).2⟩)
theorem ok_Board_go_back (T : Tx K mg)
    (sem : ∀ {ds : List D} {M : Mem} {P : DK}, (gZ_Board_go_back (okBC T.oA_Board T.oA_CalmBoard)) ds M P → ds.length = 2 ∧ (wZ_Board_go_back (okBC T.oA_Board T.oA_CalmBoard)) (ends P) (ds.map some ++ List.replicate (2 - ds.length) none) M) :
    FnG P w K mg base CX0 1 T.f_Board_go_back T.fd_Board_go_back ["self", "version"] (spD K (gZ_Board_go_back (okBC T.oA_Board T.oA_CalmBoard))) :=
  okD (k := 0) T.F_Board_go_back sc_Board_go_back (fun ds M P h => (sem h).1) (fun cdv A outer s H E hgd hr => ⟨(wZ_Board_go_back (okBC T.oA_Board T.oA_CalmBoard)), ds_cons (ds_setFld (fun C (hC : C = T.oA_Board ∨ C = T.oA_CalmBoard) => hC.elim (fun h => by subst h; exact ⟨T.cl_Board, T.na_Board_standing⟩) (fun h => by subst h; exact ⟨T.cl_CalmBoard, T.na_CalmBoard_standing⟩)) (ps_fld (de_name (pv 0)) (de_own (deo_sliceO (de_fld (fun C (hC : C = T.oA_Board ∨ C = T.oA_CalmBoard) => hC.elim (fun h => by subst h; exact ⟨T.cl_Board, T.na_Board_standing⟩) (fun h => by subst h; exact ⟨T.cl_CalmBoard, T.na_CalmBoard_standing⟩)) (pe_fld (de_name (pv 0)) rfl)) (do_none) (do_some (de_name (pv 1))))) rfl)) (ds_cons (ds_setFld (fun C (hC : C = T.oA_Board ∨ C = T.oA_CalmBoard) => hC.elim (fun h => by subst h; exact ⟨T.cl_Board, T.na_Board_states⟩) (fun h => by subst h; exact ⟨T.cl_CalmBoard, T.na_CalmBoard_states⟩)) (ps_fld (de_name (pv 0)) (de_own (deo_sliceO (de_fld (fun C (hC : C = T.oA_Board ∨ C = T.oA_CalmBoard) => hC.elim (fun h => by subst h; exact ⟨T.cl_Board, T.na_Board_states⟩) (fun h => by subst h; exact ⟨T.cl_CalmBoard, T.na_CalmBoard_states⟩)) (pe_fld (de_name (pv 0)) rfl)) (do_none) (do_some (de_op od_add (de_name (pv 1)) (de_int))))) rfl)) (ds_one (ds_ret (de_name (pv 1))))), fun ds M P h => (sem h).2⟩)
theorem ok_Board_undo (T : Tx K mg) (G_Board_go_back : FnG P w K mg base CX0 1 T.f_Board_go_back T.fd_Board_go_back ["self", "version"] (spD K (gZ_Board_go_back (okBC T.oA_Board T.oA_CalmBoard))))
    (sem : ∀ {ds : List D} {M : Mem} {P : DK} {PX : DXK}, (gZ_Board_undo (okBC T.oA_Board T.oA_CalmBoard)) ds M P PX → ds.length = 1 ∧ (wZ_Board_undo (okBC T.oA_Board T.oA_CalmBoard)) (endsX P PX) (ds.map some ++ List.replicate (1 - ds.length) none) M) :
    FnG P w K mg base (L2.CX P w) 2 T.f_Board_undo T.fd_Board_undo ["self"] (spX K T.ct (gZ_Board_undo (okBC T.oA_Board T.oA_CalmBoard))) :=
  okDX (k := 1) T.F_Board_undo sc_Board_undo (fun ds M P PX h => (sem h).1) (fun cdv A outer s H E hgd hr => ⟨(wZ_Board_undo (okBC T.oA_Board T.oA_CalmBoard)), ds_cons (ds_if (dt_not (dt_valO (de_fld (fun C (hC : C = T.oA_Board ∨ C = T.oA_CalmBoard) => hC.elim (fun h => by subst h; exact ⟨T.cl_Board, T.na_Board_standing⟩) (fun h => by subst h; exact ⟨T.cl_CalmBoard, T.na_CalmBoard_standing⟩)) (pe_fld (de_name (pv 0)) rfl)))) (ds_one (ds_raise0 rfl (takes_of rfl rfl rfl rfl) (fun _ _ _ _ z => z) T.x_NothingToUndo (pmk_own0 PySem.F.excBase_ValueError T.q_NothingToUndo T.m_NothingToUndo T.kc_NothingToUndo (raises_own T.xc_NothingToUndo.hs T.ty_NothingToUndo) (by rfl)))) (ds_nil)) (ds_one (ds_ret (de_met GRel.all (pe_met hgd (de_name (pv 0)) (fun C (hC : C = T.oA_Board ∨ C = T.oA_CalmBoard) => hC.elim (fun h => by subst h; exact ⟨T.cl_Board, ⟨_, _, _, _, T.mt_Board_go_back, G_Board_go_back.mono (by decide), MBn.all T.b_Board_go_back⟩⟩) (fun h => by subst h; exact ⟨T.cl_CalmBoard, ⟨_, _, _, _, T.mi_CalmBoard_Board_go_back, G_Board_go_back.mono (by decide), MBn.all T.b_Board_go_back⟩⟩)) err0 hr (da_cons (de_op od_sub (de_callB cd_len (by rfl) T.m_len (by decide +kernel) (da_cons (de_fld (fun C (hC : C = T.oA_Board ∨ C = T.oA_CalmBoard) => hC.elim (fun h => by subst h; exact ⟨T.cl_Board, T.na_Board_standing⟩) (fun h => by subst h; exact ⟨T.cl_CalmBoard, T.na_CalmBoard_standing⟩)) (pe_fld (de_name (pv 0)) rfl)) (da_nil))) (de_int)) (da_nil)))))), fun ds M P PX h => (sem h).2⟩)
theorem ok_CalmBoard_check_calm (T : Tx K mg) (G_least_turns : FnG P w K mg base CX0 8 T.f_least_turns T.fd_least_turns ["ring", "tolerance"] (spD K g_least_turns)) (GI_Restless : FnOk P w K mg base CX0 1 T.fI_Restless T.fdI_Restless ["self", "number"] (spIniB T.c_Restless "number" [.type "ValueError", .type "Exception", .type "BaseException", .type "object"] "ValueError.__new__" K))
    (sem : ∀ {ds : List D} {M : Mem} {P : DK} {PX : DXK}, (gC_CalmBoard_check_calm T.oA_CalmBoard) ds M P PX → ds.length = 2 ∧ (wC_CalmBoard_check_calm T.oA_CalmBoard) (endsX P PX) (ds.map some ++ List.replicate (5 - ds.length) none) M) :
    FnG P w K mg base (L2.CX P w) 9 T.f_CalmBoard_check_calm T.fd_CalmBoard_check_calm ["self", "ring"] (spX K T.ct (gC_CalmBoard_check_calm T.oA_CalmBoard)) :=
  okDX (k := 8) T.F_CalmBoard_check_calm sc_CalmBoard_check_calm (fun ds M P PX h => (sem h).1) (fun cdv A outer s H E hgd hr => ⟨(wC_CalmBoard_check_calm T.oA_CalmBoard), ds_cons (ds_asg (ps_asg (g := tgT K (Tg.tp [Tg.nm 2, Tg.nm 3])) (de_fld (fun C (hC : C = T.oA_CalmBoard) => by subst hC; exact ⟨T.cl_CalmBoard, T.na_CalmBoard_limits⟩) (pe_fld (de_name (pv 0)) rfl)) (pg_sq rfl (pgs_cons (pg_name (i := 2) sc_CalmBoard_check_calm.nd rfl (.inl rfl)) (pgs_cons (pg_name (i := 3) sc_CalmBoard_check_calm.nd rfl (.inl rfl)) (pgs_nil)))))) (ds_cons (ds_set (ps_set (i := 4) sc_CalmBoard_check_calm.nd rfl (.inl rfl) (de_call hgd (G_least_turns.mono (by decide)) hr (by rfl) T.g_least_turns T.F_least_turns.kp T.b_least_turns pass0 (da_cons (de_name (pv 1)) (da_cons (de_name (pv 2)) (da_nil)))))) (ds_one (ds_if (dt_cmp od_gt (de_name (pv 4)) (de_name (pv 3)) (nomark _)) (ds_one (ds_raiseB PySem.F.excBase_ValueError rfl (takes_of rfl rfl rfl rfl) (fun _ _ _ _ z => z) T.x_Restless T.o_Restless T.n_Restless T.i_Restless T.y_Restless GI_Restless (hr.mono (by decide)) T.bI_Restless (by rfl) T.m_Restless (de_name (pv 4)))) (ds_nil)))), fun ds M P PX h => (sem h).2⟩)
theorem ok_CalmBoard___init__ (T : Tx K mg) (G_check_tolerance : FnG P w K mg base (L2.CX P w) 3 T.f_check_tolerance T.fd_check_tolerance ["value"] (spX K T.ct gZ_check_tolerance)) (G_is_number : FnG P w K mg base CX0 1 T.f_is_number T.fd_is_number ["value"] (spD K g_is_number)) (G_Board___init__ : FnG P w K mg base CX0 4 T.f_Board___init__ T.fd_Board___init__ ["self", "ring"] (spD K (gZ_Board___init__ (okBC T.oA_Board T.oA_CalmBoard)))) (G_CalmBoard_check_calm : FnG P w K mg base (L2.CX P w) 9 T.f_CalmBoard_check_calm T.fd_CalmBoard_check_calm ["self", "ring"] (spX K T.ct (gC_CalmBoard_check_calm T.oA_CalmBoard))) (GI_BadTurns : FnOk P w K mg base CX0 1 T.fI_BadTurns T.fdI_BadTurns ["self", "value"] (spIniB T.c_BadTurns "value" [.type "ValueError", .type "Exception", .type "BaseException", .type "object"] "ValueError.__new__" K)) (hP : SupP P "/claim/cut.py")
    (sem : ∀ {ds : List D} {M : Mem} {P : DK} {PX : DXK}, (gC_CalmBoard___init__ T.oA_CalmBoard) ds M P PX → ds.length = 4 ∧ (wC_CalmBoard___init__ (okBC T.oA_Board T.oA_CalmBoard) T.oA_CalmBoard) (endsX P PX) (ds.map some ++ (some (.obj (.ref T.oA_CalmBoard)) :: List.replicate (5 - ds.length - 1) none)) M) :
    FnG P w K mg base (L2.CX P w) 10 T.f_CalmBoard___init__ T.fd_CalmBoard___init__ ["self", "ring", "tolerance", "turns"] (spX K T.ct (gC_CalmBoard___init__ T.oA_CalmBoard)) :=
  okDXM (k := 9) T.F_CalmBoard___init__ hP sc_CalmBoard___init__ (fun ds M P PX h => (sem h).1) T.hc_CalmBoard T.m_super (by rfl) (by rfl) (by rfl) (fun cc cda A outer s H E hgd hr sk => ⟨(wC_CalmBoard___init__ (okBC T.oA_Board T.oA_CalmBoard) T.oA_CalmBoard), dssA_cons (dsA_expr (deA_super (E := fun _ => E0) (pe_super hgd sk (fun C (hC : C = T.oA_CalmBoard) => by subst hC; exact T.su_CalmBoard___init__) (fun C (hC : C = T.oA_CalmBoard) => by subst hC; exact G_Board___init__.mono (by decide)) T.b_Board___init__ err0 hr rfl rfl (by decide) (da_cons (de_name (pv 1)) (da_nil))))) (dssA_of (ds_cons (ds_exprX (dex_call hgd (G_check_tolerance.mono (by decide)) hr (by rfl) T.g_check_tolerance T.F_check_tolerance.kp T.b_check_tolerance (takes_of rfl rfl rfl rfl) (fun _ _ _ _ z => z) (da_cons (de_name (pv 2)) (da_nil)))) (ds_cons (ds_if (DTw.dt (dt_or (dt_not (dt_val (de_call hgd (G_is_number.mono (by decide)) hr (by rfl) T.g_is_number T.F_is_number.kp T.b_is_number pass0 (da_cons (de_name (pv 3)) (da_nil))))) (dt_or1 (dt_not (dt_chain od_le od_le (de_int) (de_name (pv 3)) (de_c (v := .int 24) (pe_glob (by rfl) T.m_MAX_LENGTH ⟨_, rfl⟩) (fun _ => .int _))))))) (ds_one (ds_raiseB PySem.F.excBase_ValueError rfl (takes_of rfl rfl rfl rfl) (fun _ _ _ _ z => z) T.x_BadTurns T.o_BadTurns T.n_BadTurns T.i_BadTurns T.y_BadTurns GI_BadTurns (hr.mono (by decide)) T.bI_BadTurns (by rfl) T.m_BadTurns (de_name (pv 3)))) (ds_nil)) (ds_cons (ds_setFld (fun C (hC : C = T.oA_CalmBoard) => by subst hC; exact ⟨T.cl_CalmBoard, T.na_CalmBoard_limits⟩) (ps_fld (de_name (pv 0)) (de_tup (da_cons (de_name (pv 2)) (da_cons (de_name (pv 3)) (da_nil)))) rfl)) (ds_one (ds_exprX (dex_met (fun _ _ _ _ z => z) GRel.all (pe_met hgd (de_name (pv 0)) (fun C (hC : C = T.oA_CalmBoard) => by subst hC; exact ⟨T.cl_CalmBoard, ⟨_, _, _, _, T.mt_CalmBoard_check_calm, G_CalmBoard_check_calm.mono (by decide), MBn.all T.b_CalmBoard_check_calm⟩⟩) (errX (takes_of rfl rfl rfl rfl)) hr (da_cons (de_name (pv 1)) (da_nil)))))))))), fun ds M P PX h => (sem h).2⟩)
theorem ok_CalmBoard_keep (T : Tx K mg) (G_CalmBoard_check_calm : FnG P w K mg base (L2.CX P w) 9 T.f_CalmBoard_check_calm T.fd_CalmBoard_check_calm ["self", "ring"] (spX K T.ct (gC_CalmBoard_check_calm T.oA_CalmBoard))) (G_Board_keep : FnG P w K mg base (L2.CX P w) 1 T.f_Board_keep T.fd_Board_keep ["self", "edit", "ring"] (spX K T.ct (gZ_Board_keep (okBC T.oA_Board T.oA_CalmBoard)))) (hP : SupP P "/claim/cut.py")
    (sem : ∀ {ds : List D} {M : Mem} {P : DK} {PX : DXK}, (gC_CalmBoard_keep T.oA_CalmBoard) ds M P PX → ds.length = 3 ∧ (wC_CalmBoard_keep (okBC T.oA_Board T.oA_CalmBoard) T.oA_CalmBoard) (endsX P PX) (ds.map some ++ (some (.obj (.ref T.oA_CalmBoard)) :: List.replicate (4 - ds.length - 1) none)) M) :
    FnG P w K mg base (L2.CX P w) 10 T.f_CalmBoard_keep T.fd_CalmBoard_keep ["self", "edit", "ring"] (spX K T.ct (gC_CalmBoard_keep T.oA_CalmBoard)) :=
  okDXM (k := 9) T.F_CalmBoard_keep hP sc_CalmBoard_keep (fun ds M P PX h => (sem h).1) T.hc_CalmBoard T.m_super (by rfl) (by rfl) (by rfl) (fun cc cda A outer s H E hgd hr sk => ⟨(wC_CalmBoard_keep (okBC T.oA_Board T.oA_CalmBoard) T.oA_CalmBoard), dssA_cons (dstA_of (ds_exprX (dex_met (fun _ _ _ _ z => z) GRel.all (pe_met hgd (de_name (pv 0)) (fun C (hC : C = T.oA_CalmBoard) => by subst hC; exact ⟨T.cl_CalmBoard, ⟨_, _, _, _, T.mt_CalmBoard_check_calm, G_CalmBoard_check_calm.mono (by decide), MBn.all T.b_CalmBoard_check_calm⟩⟩) (errX (takes_of rfl rfl rfl rfl)) hr (da_cons (de_name (pv 2)) (da_nil)))))) (dssA_one (dsA_retX (dexA_super (fun _ _ _ _ z => z) (pe_super hgd sk (fun C (hC : C = T.oA_CalmBoard) => by subst hC; exact T.su_CalmBoard_keep) (fun C (hC : C = T.oA_CalmBoard) => by subst hC; exact G_Board_keep.mono (by decide)) T.b_Board_keep (errX (takes_of rfl rfl rfl rfl)) hr rfl rfl (by decide) (da_cons (de_name (pv 1)) (da_cons (de_name (pv 2)) (da_nil))))))), fun ds M P PX h => (sem h).2⟩)
theorem ok_Board___eq__ (T : Tx K mg)
    (sem : ∀ {ds : List D} {M : Mem} {P : DK}, (gE_Board___eq__ (okBC T.oA_Board T.oA_CalmBoard)) ds M P → ds.length = 2 ∧ (wE_Board___eq__ (okBC T.oA_Board T.oA_CalmBoard) T.oA_Board) (ends P) (ds.map some ++ List.replicate (2 - ds.length) none) M) :
    FnG P w K mg base CX0 1 T.f_Board___eq__ T.fd_Board___eq__ ["self", "other"] (spD K (gE_Board___eq__ (okBC T.oA_Board T.oA_CalmBoard))) :=
  okD (k := 0) T.F_Board___eq__ sc_Board___eq__ (fun ds M P h => (sem h).1) (fun cdv A outer s H E hgd hr => ⟨(wE_Board___eq__ (okBC T.oA_Board T.oA_CalmBoard) T.oA_Board), ds_one (ds_ret (de_and (de_callB (cd_isiJ (.own _) (fun C (hC : C = T.oA_Board ∨ C = T.oA_CalmBoard) => hC.elim (fun h => by subst h; exact ⟨T.ic_Board, T.ki_Board_Board⟩) (fun h => by subst h; exact ⟨T.ic_CalmBoard, T.ki_CalmBoard_Board⟩)) T.kt_Board) (by rfl) T.m_isinstance (by decide +kernel) (da_cons (de_name (pv 1)) (da_cons (de_clsC (pe_glob (by rfl) T.m_Board rfl)) da_nil))) (de_and (de_cmp (od_eq hr.units) (de_ix xd_ix (de_fld (fun C (hC : C = T.oA_Board ∨ C = T.oA_CalmBoard) => hC.elim (fun h => by subst h; exact ⟨T.cl_Board, T.na_Board_states⟩) (fun h => by subst h; exact ⟨T.cl_CalmBoard, T.na_CalmBoard_states⟩)) (pe_fld (de_name (pv 0)) rfl)) (de_un ud_neg (de_int)) (fun _ _ => rfl)) (de_ix xd_ix (de_fld (fun C (hC : C = T.oA_Board ∨ C = T.oA_CalmBoard) => hC.elim (fun h => by subst h; exact ⟨T.cl_Board, T.na_Board_states⟩) (fun h => by subst h; exact ⟨T.cl_CalmBoard, T.na_CalmBoard_states⟩)) (pe_fld (de_name (pv 1)) rfl)) (de_un ud_neg (de_int)) (fun _ _ => rfl)) (nomark _)) (de_one (de_cmp (od_eq hr.units) (de_fld (fun C (hC : C = T.oA_Board ∨ C = T.oA_CalmBoard) => hC.elim (fun h => by subst h; exact ⟨T.cl_Board, T.na_Board_limits⟩) (fun h => by subst h; exact ⟨T.cl_CalmBoard, T.na_CalmBoard_limits⟩)) (pe_fld (de_name (pv 0)) rfl)) (de_fld (fun C (hC : C = T.oA_Board ∨ C = T.oA_CalmBoard) => hC.elim (fun h => by subst h; exact ⟨T.cl_Board, T.na_Board_limits⟩) (fun h => by subst h; exact ⟨T.cl_CalmBoard, T.na_CalmBoard_limits⟩)) (pe_fld (de_name (pv 1)) rfl)) (nomark _)))))), fun ds M P h => (sem h).2⟩)
theorem ok_Board_put (T : Tx K mg) (G_check_place : FnG P w K mg base (L2.CX P w) 3 T.f_check_place T.fd_check_place ["value", "count"] (spX K T.ct gZ_check_place)) (G_check_height : FnG P w K mg base (L2.CX P w) 3 T.f_check_height T.fd_check_height ["value"] (spX K T.ct gZ_check_height)) (G_set_height : FnG P w K mg base CX0 1 T.f_set_height T.fd_set_height ["ring", "place", "height"] (spD K g_set_height)) (G_Board_check_room : FnG P w K mg base (L2.CX P w) 1 T.f_Board_check_room T.fd_Board_check_room ["self"] (spX K T.ct (gZ_Board_check_room (okBC T.oA_Board T.oA_CalmBoard)))) (G_Board_ring : FnG P w K mg base (L2.CX P w) 3 T.f_Board_ring T.fd_Board_ring ["self", "version"] (spX K T.ct (gZ_Board_ring (okBC T.oA_Board T.oA_CalmBoard)))) (G_Board_keep : FnG P w K mg base (L2.CX P w) 1 T.f_Board_keep T.fd_Board_keep ["self", "edit", "ring"] (spX K T.ct (gZ_Board_keep (okBC T.oA_Board T.oA_CalmBoard)))) (G_CalmBoard_keep : FnG P w K mg base (L2.CX P w) 10 T.f_CalmBoard_keep T.fd_CalmBoard_keep ["self", "edit", "ring"] (spX K T.ct (gC_CalmBoard_keep T.oA_CalmBoard)))
    (sem : ∀ {ds : List D} {M : Mem} {P : DK} {PX : DXK}, (gZ_Board_put (okBC T.oA_Board T.oA_CalmBoard) (fun C => if C = T.oA_CalmBoard then (gC_CalmBoard_keep T.oA_CalmBoard) else (gZ_Board_keep (okBC T.oA_Board T.oA_CalmBoard)))) ds M P PX → ds.length = 3 ∧ (wZ_Board_put (okBC T.oA_Board T.oA_CalmBoard) (fun C => if C = T.oA_CalmBoard then (gC_CalmBoard_keep T.oA_CalmBoard) else (gZ_Board_keep (okBC T.oA_Board T.oA_CalmBoard)))) (endsX P PX) (ds.map some ++ List.replicate (4 - ds.length) none) M) :
    FnG P w K mg base (L2.CX P w) 11 T.f_Board_put T.fd_Board_put ["self", "place", "height"] (spX K T.ct (gZ_Board_put (okBC T.oA_Board T.oA_CalmBoard) (fun C => if C = T.oA_CalmBoard then (gC_CalmBoard_keep T.oA_CalmBoard) else (gZ_Board_keep (okBC T.oA_Board T.oA_CalmBoard))))) :=
  okDX (k := 10) T.F_Board_put sc_Board_put (fun ds M P PX h => (sem h).1) (fun cdv A outer s H E hgd hr => ⟨(wZ_Board_put (okBC T.oA_Board T.oA_CalmBoard) (fun C => if C = T.oA_CalmBoard then (gC_CalmBoard_keep T.oA_CalmBoard) else (gZ_Board_keep (okBC T.oA_Board T.oA_CalmBoard)))), ds_cons (ds_exprX (dex_met0 (fun _ _ _ _ z => z) GRel.all (pe_met0 hgd (de_name (pv 0)) (fun C (hC : C = T.oA_Board ∨ C = T.oA_CalmBoard) => hC.elim (fun h => by subst h; exact ⟨T.cl_Board, ⟨_, _, _, _, T.mt_Board_check_room, G_Board_check_room.mono (by decide), MBn.all T.b_Board_check_room⟩⟩) (fun h => by subst h; exact ⟨T.cl_CalmBoard, ⟨_, _, _, _, T.mi_CalmBoard_Board_check_room, G_Board_check_room.mono (by decide), MBn.all T.b_Board_check_room⟩⟩)) (errX (takes_of rfl rfl rfl rfl)) hr))) (ds_cons (ds_setX (ps_set (i := 3) sc_Board_put.nd rfl (.inl rfl) (dex_met0 (fun _ _ _ _ z => z) (GRel.dfl fun _ _ => .cons (.non) (.nil)) (pe_met0 hgd (de_name (pv 0)) (fun C (hC : C = T.oA_Board ∨ C = T.oA_CalmBoard) => hC.elim (fun h => by subst h; exact ⟨T.cl_Board, T.bk_Board_ring_0.elim fun g hg => ⟨_, _, _, g, T.mt_Board_ring, G_Board_ring.mono (by decide), hg⟩⟩) (fun h => by subst h; exact ⟨T.cl_CalmBoard, T.bk_Board_ring_0.elim fun g hg => ⟨_, _, _, g, T.mi_CalmBoard_Board_ring, G_Board_ring.mono (by decide), hg⟩⟩)) (errX (takes_of rfl rfl rfl rfl)) hr)))) (ds_cons (ds_exprX (dex_call hgd (G_check_place.mono (by decide)) hr (by rfl) T.g_check_place T.F_check_place.kp T.b_check_place (takes_of rfl rfl rfl rfl) (fun _ _ _ _ z => z) (da_cons (de_name (pv 1)) (da_cons (de_callB cd_len (by rfl) T.m_len (by decide +kernel) (da_cons (de_name (pv 3)) (da_nil))) (da_nil))))) (ds_cons (ds_exprX (dex_call hgd (G_check_height.mono (by decide)) hr (by rfl) T.g_check_height T.F_check_height.kp T.b_check_height (takes_of rfl rfl rfl rfl) (fun _ _ _ _ z => z) (da_cons (de_name (pv 2)) (da_nil)))) (ds_one (ds_retX (dex_met (fun _ _ _ _ z => z) GRel.all (pe_met hgd (de_name (pv 0)) (fun C (hC : C = T.oA_Board ∨ C = T.oA_CalmBoard) => hC.elim (fun h => by subst h; simp only [if_neg T.ne_cls]; exact ⟨T.cl_Board, ⟨_, _, _, _, T.mt_Board_keep, G_Board_keep.mono (by decide), MBn.all T.b_Board_keep⟩⟩) (fun h => by subst h; simp only [if_true]; exact ⟨T.cl_CalmBoard, ⟨_, _, _, _, T.mt_CalmBoard_keep, G_CalmBoard_keep.mono (by decide), MBn.all T.b_CalmBoard_keep⟩⟩)) (errX (takes_of rfl rfl rfl rfl)) hr (da_cons (de_tup (da_cons (de_str) (da_cons (de_name (pv 1)) (da_cons (de_name (pv 2)) (da_nil))))) (da_cons (de_call hgd (G_set_height.mono (by decide)) hr (by rfl) T.g_set_height T.F_set_height.kp T.b_set_height pass0 (da_cons (de_name (pv 3)) (da_cons (de_name (pv 1)) (da_cons (de_name (pv 2)) (da_nil))))) (da_nil)))))))))), fun ds M P PX h => (sem h).2⟩)
theorem ok_Board_insert (T : Tx K mg) (G_check_place : FnG P w K mg base (L2.CX P w) 3 T.f_check_place T.fd_check_place ["value", "count"] (spX K T.ct gZ_check_place)) (G_check_height : FnG P w K mg base (L2.CX P w) 3 T.f_check_height T.fd_check_height ["value"] (spX K T.ct gZ_check_height)) (G_insert_height : FnG P w K mg base (L2.CX P w) 3 T.f_insert_height T.fd_insert_height ["ring", "place", "height"] (spX K T.ct gZ_insert_height)) (G_Board_check_room : FnG P w K mg base (L2.CX P w) 1 T.f_Board_check_room T.fd_Board_check_room ["self"] (spX K T.ct (gZ_Board_check_room (okBC T.oA_Board T.oA_CalmBoard)))) (G_Board_ring : FnG P w K mg base (L2.CX P w) 3 T.f_Board_ring T.fd_Board_ring ["self", "version"] (spX K T.ct (gZ_Board_ring (okBC T.oA_Board T.oA_CalmBoard)))) (G_Board_keep : FnG P w K mg base (L2.CX P w) 1 T.f_Board_keep T.fd_Board_keep ["self", "edit", "ring"] (spX K T.ct (gZ_Board_keep (okBC T.oA_Board T.oA_CalmBoard)))) (G_CalmBoard_keep : FnG P w K mg base (L2.CX P w) 10 T.f_CalmBoard_keep T.fd_CalmBoard_keep ["self", "edit", "ring"] (spX K T.ct (gC_CalmBoard_keep T.oA_CalmBoard)))
    (sem : ∀ {ds : List D} {M : Mem} {P : DK} {PX : DXK}, (gZ_Board_insert (okBC T.oA_Board T.oA_CalmBoard) (fun C => if C = T.oA_CalmBoard then (gC_CalmBoard_keep T.oA_CalmBoard) else (gZ_Board_keep (okBC T.oA_Board T.oA_CalmBoard)))) ds M P PX → ds.length = 3 ∧ (wZ_Board_insert (okBC T.oA_Board T.oA_CalmBoard) (fun C => if C = T.oA_CalmBoard then (gC_CalmBoard_keep T.oA_CalmBoard) else (gZ_Board_keep (okBC T.oA_Board T.oA_CalmBoard)))) (endsX P PX) (ds.map some ++ List.replicate (4 - ds.length) none) M) :
    FnG P w K mg base (L2.CX P w) 11 T.f_Board_insert T.fd_Board_insert ["self", "place", "height"] (spX K T.ct (gZ_Board_insert (okBC T.oA_Board T.oA_CalmBoard) (fun C => if C = T.oA_CalmBoard then (gC_CalmBoard_keep T.oA_CalmBoard) else (gZ_Board_keep (okBC T.oA_Board T.oA_CalmBoard))))) :=
  okDX (k := 10) T.F_Board_insert sc_Board_insert (fun ds M P PX h => (sem h).1) (fun cdv A outer s H E hgd hr => ⟨(wZ_Board_insert (okBC T.oA_Board T.oA_CalmBoard) (fun C => if C = T.oA_CalmBoard then (gC_CalmBoard_keep T.oA_CalmBoard) else (gZ_Board_keep (okBC T.oA_Board T.oA_CalmBoard)))), ds_cons (ds_exprX (dex_met0 (fun _ _ _ _ z => z) GRel.all (pe_met0 hgd (de_name (pv 0)) (fun C (hC : C = T.oA_Board ∨ C = T.oA_CalmBoard) => hC.elim (fun h => by subst h; exact ⟨T.cl_Board, ⟨_, _, _, _, T.mt_Board_check_room, G_Board_check_room.mono (by decide), MBn.all T.b_Board_check_room⟩⟩) (fun h => by subst h; exact ⟨T.cl_CalmBoard, ⟨_, _, _, _, T.mi_CalmBoard_Board_check_room, G_Board_check_room.mono (by decide), MBn.all T.b_Board_check_room⟩⟩)) (errX (takes_of rfl rfl rfl rfl)) hr))) (ds_cons (ds_setX (ps_set (i := 3) sc_Board_insert.nd rfl (.inl rfl) (dex_met0 (fun _ _ _ _ z => z) (GRel.dfl fun _ _ => .cons (.non) (.nil)) (pe_met0 hgd (de_name (pv 0)) (fun C (hC : C = T.oA_Board ∨ C = T.oA_CalmBoard) => hC.elim (fun h => by subst h; exact ⟨T.cl_Board, T.bk_Board_ring_0.elim fun g hg => ⟨_, _, _, g, T.mt_Board_ring, G_Board_ring.mono (by decide), hg⟩⟩) (fun h => by subst h; exact ⟨T.cl_CalmBoard, T.bk_Board_ring_0.elim fun g hg => ⟨_, _, _, g, T.mi_CalmBoard_Board_ring, G_Board_ring.mono (by decide), hg⟩⟩)) (errX (takes_of rfl rfl rfl rfl)) hr)))) (ds_cons (ds_exprX (dex_call hgd (G_check_place.mono (by decide)) hr (by rfl) T.g_check_place T.F_check_place.kp T.b_check_place (takes_of rfl rfl rfl rfl) (fun _ _ _ _ z => z) (da_cons (de_name (pv 1)) (da_cons (de_op od_add (de_callB cd_len (by rfl) T.m_len (by decide +kernel) (da_cons (de_name (pv 3)) (da_nil))) (de_int)) (da_nil))))) (ds_cons (ds_exprX (dex_call hgd (G_check_height.mono (by decide)) hr (by rfl) T.g_check_height T.F_check_height.kp T.b_check_height (takes_of rfl rfl rfl rfl) (fun _ _ _ _ z => z) (da_cons (de_name (pv 2)) (da_nil)))) (ds_one (ds_retX (dex_metXX (fun _ _ _ _ z => z) GRel.all (pe_met hgd (de_name (pv 0)) (fun C (hC : C = T.oA_Board ∨ C = T.oA_CalmBoard) => hC.elim (fun h => by subst h; simp only [if_neg T.ne_cls]; exact ⟨T.cl_Board, ⟨_, _, _, _, T.mt_Board_keep, G_Board_keep.mono (by decide), MBn.all T.b_Board_keep⟩⟩) (fun h => by subst h; simp only [if_true]; exact ⟨T.cl_CalmBoard, ⟨_, _, _, _, T.mt_CalmBoard_keep, G_CalmBoard_keep.mono (by decide), MBn.all T.b_CalmBoard_keep⟩⟩)) (errX (takes_of rfl rfl rfl rfl)) hr (dax_cons (dex_of (de_tup (da_cons (de_str) (da_cons (de_name (pv 1)) (da_cons (de_name (pv 2)) (da_nil)))))) (dax_cons (dex_call hgd (G_insert_height.mono (by decide)) hr (by rfl) T.g_insert_height T.F_insert_height.kp T.b_insert_height (takes_of rfl rfl rfl rfl) (fun _ _ _ _ z => z) (da_cons (de_name (pv 3)) (da_cons (de_name (pv 1)) (da_cons (de_name (pv 2)) (da_nil))))) (dax_of da_nil)))))))))), fun ds M P PX h => (sem h).2⟩)
theorem ok_Board_remove (T : Tx K mg) (G_check_place : FnG P w K mg base (L2.CX P w) 3 T.f_check_place T.fd_check_place ["value", "count"] (spX K T.ct gZ_check_place)) (G_remove_place : FnG P w K mg base (L2.CX P w) 1 T.f_remove_place T.fd_remove_place ["ring", "place"] (spX K T.ct gZ_remove_place)) (G_Board_check_room : FnG P w K mg base (L2.CX P w) 1 T.f_Board_check_room T.fd_Board_check_room ["self"] (spX K T.ct (gZ_Board_check_room (okBC T.oA_Board T.oA_CalmBoard)))) (G_Board_ring : FnG P w K mg base (L2.CX P w) 3 T.f_Board_ring T.fd_Board_ring ["self", "version"] (spX K T.ct (gZ_Board_ring (okBC T.oA_Board T.oA_CalmBoard)))) (G_Board_keep : FnG P w K mg base (L2.CX P w) 1 T.f_Board_keep T.fd_Board_keep ["self", "edit", "ring"] (spX K T.ct (gZ_Board_keep (okBC T.oA_Board T.oA_CalmBoard)))) (G_CalmBoard_keep : FnG P w K mg base (L2.CX P w) 10 T.f_CalmBoard_keep T.fd_CalmBoard_keep ["self", "edit", "ring"] (spX K T.ct (gC_CalmBoard_keep T.oA_CalmBoard)))
    (sem : ∀ {ds : List D} {M : Mem} {P : DK} {PX : DXK}, (gZ_Board_remove (okBC T.oA_Board T.oA_CalmBoard) (fun C => if C = T.oA_CalmBoard then (gC_CalmBoard_keep T.oA_CalmBoard) else (gZ_Board_keep (okBC T.oA_Board T.oA_CalmBoard)))) ds M P PX → ds.length = 2 ∧ (wZ_Board_remove (okBC T.oA_Board T.oA_CalmBoard) (fun C => if C = T.oA_CalmBoard then (gC_CalmBoard_keep T.oA_CalmBoard) else (gZ_Board_keep (okBC T.oA_Board T.oA_CalmBoard)))) (endsX P PX) (ds.map some ++ List.replicate (3 - ds.length) none) M) :
    FnG P w K mg base (L2.CX P w) 11 T.f_Board_remove T.fd_Board_remove ["self", "place"] (spX K T.ct (gZ_Board_remove (okBC T.oA_Board T.oA_CalmBoard) (fun C => if C = T.oA_CalmBoard then (gC_CalmBoard_keep T.oA_CalmBoard) else (gZ_Board_keep (okBC T.oA_Board T.oA_CalmBoard))))) :=
  okDX (k := 10) T.F_Board_remove sc_Board_remove (fun ds M P PX h => (sem h).1) (fun cdv A outer s H E hgd hr => ⟨(wZ_Board_remove (okBC T.oA_Board T.oA_CalmBoard) (fun C => if C = T.oA_CalmBoard then (gC_CalmBoard_keep T.oA_CalmBoard) else (gZ_Board_keep (okBC T.oA_Board T.oA_CalmBoard)))), ds_cons (ds_exprX (dex_met0 (fun _ _ _ _ z => z) GRel.all (pe_met0 hgd (de_name (pv 0)) (fun C (hC : C = T.oA_Board ∨ C = T.oA_CalmBoard) => hC.elim (fun h => by subst h; exact ⟨T.cl_Board, ⟨_, _, _, _, T.mt_Board_check_room, G_Board_check_room.mono (by decide), MBn.all T.b_Board_check_room⟩⟩) (fun h => by subst h; exact ⟨T.cl_CalmBoard, ⟨_, _, _, _, T.mi_CalmBoard_Board_check_room, G_Board_check_room.mono (by decide), MBn.all T.b_Board_check_room⟩⟩)) (errX (takes_of rfl rfl rfl rfl)) hr))) (ds_cons (ds_setX (ps_set (i := 2) sc_Board_remove.nd rfl (.inl rfl) (dex_met0 (fun _ _ _ _ z => z) (GRel.dfl fun _ _ => .cons (.non) (.nil)) (pe_met0 hgd (de_name (pv 0)) (fun C (hC : C = T.oA_Board ∨ C = T.oA_CalmBoard) => hC.elim (fun h => by subst h; exact ⟨T.cl_Board, T.bk_Board_ring_0.elim fun g hg => ⟨_, _, _, g, T.mt_Board_ring, G_Board_ring.mono (by decide), hg⟩⟩) (fun h => by subst h; exact ⟨T.cl_CalmBoard, T.bk_Board_ring_0.elim fun g hg => ⟨_, _, _, g, T.mi_CalmBoard_Board_ring, G_Board_ring.mono (by decide), hg⟩⟩)) (errX (takes_of rfl rfl rfl rfl)) hr)))) (ds_cons (ds_exprX (dex_call hgd (G_check_place.mono (by decide)) hr (by rfl) T.g_check_place T.F_check_place.kp T.b_check_place (takes_of rfl rfl rfl rfl) (fun _ _ _ _ z => z) (da_cons (de_name (pv 1)) (da_cons (de_callB cd_len (by rfl) T.m_len (by decide +kernel) (da_cons (de_name (pv 2)) (da_nil))) (da_nil))))) (ds_one (ds_retX (dex_metXX (fun _ _ _ _ z => z) GRel.all (pe_met hgd (de_name (pv 0)) (fun C (hC : C = T.oA_Board ∨ C = T.oA_CalmBoard) => hC.elim (fun h => by subst h; simp only [if_neg T.ne_cls]; exact ⟨T.cl_Board, ⟨_, _, _, _, T.mt_Board_keep, G_Board_keep.mono (by decide), MBn.all T.b_Board_keep⟩⟩) (fun h => by subst h; simp only [if_true]; exact ⟨T.cl_CalmBoard, ⟨_, _, _, _, T.mt_CalmBoard_keep, G_CalmBoard_keep.mono (by decide), MBn.all T.b_CalmBoard_keep⟩⟩)) (errX (takes_of rfl rfl rfl rfl)) hr (dax_cons (dex_of (de_tup (da_cons (de_str) (da_cons (de_name (pv 1)) (da_nil))))) (dax_cons (dex_call hgd (G_remove_place.mono (by decide)) hr (by rfl) T.g_remove_place T.F_remove_place.kp T.b_remove_place (takes_of rfl rfl rfl rfl) (fun _ _ _ _ z => z) (da_cons (de_name (pv 2)) (da_cons (de_name (pv 1)) (da_nil)))) (dax_of da_nil))))))))), fun ds M P PX h => (sem h).2⟩)
theorem ok__law_draw (T : Tx K mg)
    (sem : ∀ {ds : List D} {M : Mem} {P : DK}, gDraw ds M P → ds.length = 2 ∧ w_drawC (ends P) (ds.map some ++ List.replicate (4 - ds.length) none) M) :
    FnG P w K mg base CX0 1 T.f__law_draw T.fd__law_draw ["_law_deck_here", "_law_many"] (spD K gDraw) :=
  okD (k := 0) T.F__law_draw sc__law_draw (fun ds M P h => (sem h).1) (fun cdv A outer s H E hgd hr => ⟨w_drawC, ds_cons (ds_store (ps_asg (de_op od_add (de_ix xd_ix (de_name (pv 0)) (de_int) (fun _ _ => rfl)) (de_int)) (pg_sub (de_name (pv 0)) (de_int) set_list))) (ds_cons (ds_set (ps_set (i := 2) sc__law_draw.nd rfl (.inl rfl) (de_int))) (ds_cons (ds_set (ps_set (i := 3) sc__law_draw.nd rfl (.inl rfl) (de_un ud_neg (de_int)))) (ds_cons (ds_if (dt_cmp od_gt (de_callB cd_len (by rfl) T.m_len (by decide +kernel) (da_cons (de_ix xd_ix (de_name (pv 0)) (de_int) (fun _ _ => rfl)) (da_nil))) (de_int) (nomark _)) (ds_cons (ds_set (ps_set (i := 3) sc__law_draw.nd rfl (.inl rfl) (de_op od_mod (de_ix xd_ix (de_name (pv 0)) (de_int) (fun _ _ => rfl)) (de_callB cd_len (by rfl) T.m_len (by decide +kernel) (da_cons (de_ix xd_ix (de_name (pv 0)) (de_int) (fun _ _ => rfl)) (da_nil)))))) (ds_one (ds_set (ps_set (i := 2) sc__law_draw.nd rfl (.inl rfl) (de_ix xd_ix (de_ix xd_ix (de_name (pv 0)) (de_int) (fun _ _ => rfl)) (de_name (pv 3)) (fun _ _ => rfl)))))) (ds_nil)) (ds_cons (ds_if (dt_cmp od_ge (de_name (pv 2)) (de_op od_pow (de_int) (de_int)) (nomark _)) (ds_cons (ds_store (ps_asg (de_op od_fdiv (de_name (pv 2)) (de_name (pv 1))) (pg_sub (de_ix xd_ix (de_name (pv 0)) (de_int) (fun _ _ => rfl)) (de_name (pv 3)) set_list))) (ds_one (ds_ret (de_op od_mod (de_name (pv 2)) (de_name (pv 1)))))) (ds_nil)) (ds_one (ds_ret (de_op od_mod (de_op od_mod (de_op od_pow (de_op od_add (de_op od_add (de_op od_mod (de_name (pv 2)) (de_int)) (de_op od_mul (de_int) (de_ix xd_ix (de_name (pv 0)) (de_int) (fun _ _ => rfl)))) (de_int)) (de_int)) (de_int)) (de_name (pv 1))))))))), fun ds M P h => (sem h).2⟩)
theorem ok__law_ring (T : Tx K mg) (G__law_draw : FnG P w K mg base CX0 1 T.f__law_draw T.fd__law_draw ["_law_deck_here", "_law_many"] (spD K gDraw))
    (sem : ∀ {ds : List D} {M : Mem} {P : DK}, gRingE ds M P → ds.length = 2 ∧ w_ringE (endsS P) (ds.map some ++ List.replicate (7 - ds.length) none) M) :
    FnG P w K mg base CX0 2 T.f__law_ring T.fd__law_ring ["_law_deck_here", "_law_most"] (spD K gRingE) :=
  okDs (k := 1) T.F__law_ring sc__law_ring (fun ds M P h => (sem h).1) (fun cdv A outer s H E hgd hr => ⟨w_ringE, ds_cons (ds_set (ps_set (i := 2) sc__law_ring.nd rfl (.inl rfl) (de_op od_add (de_int) (de_call hgd (G__law_draw.mono (by decide)) hr (by rfl) T.g__law_draw T.F__law_draw.kp T.b__law_draw pass0 (da_cons (de_name (pv 0)) (da_cons (de_name (pv 1)) (da_nil))))))) (ds_cons (ds_set (ps_set (i := 3) sc__law_ring.nd rfl (.inl rfl) (de_ix xd_ix (de_lst (da_cons (de_int) (da_cons (de_int) (da_cons (de_int) (da_cons (de_int) (da_nil)))))) (de_call hgd (G__law_draw.mono (by decide)) hr (by rfl) T.g__law_draw T.F__law_draw.kp T.b__law_draw pass0 (da_cons (de_name (pv 0)) (da_cons (de_int) (da_nil)))) (fun _ _ => rfl)))) (ds_cons (ds_set (ps_set (i := 4) sc__law_ring.nd rfl (.inl rfl) (de_ix xd_ix (de_lst (da_cons (de_int) (da_cons (de_un ud_neg (de_int)) (da_cons (de_op od_sub (de_op od_pow (de_int) (de_int)) (de_name (pv 3))) (da_cons (de_un ud_neg (de_op od_pow (de_int) (de_int))) (da_nil)))))) (de_call hgd (G__law_draw.mono (by decide)) hr (by rfl) T.g__law_draw T.F__law_draw.kp T.b__law_draw pass0 (da_cons (de_name (pv 0)) (da_cons (de_int) (da_nil)))) (fun _ _ => rfl)))) (ds_cons (ds_setOwn (ps_set (i := 5) sc__law_ring.nd rfl (.inl rfl) (deo_lst (da_nil)))) (ds_cons (ds_frz (i := 5) (ds_for (ps_for (g := tgT K (Tg.nm 6)) PassesOwn.never rfl (di_range1 (by rfl) T.m_range (da_cons (de_name (pv 2)) (da_nil))) (pg_name (i := 6) sc__law_ring.nd rfl (.inl rfl)) (ds_one (ds_if (DTw.dt (dt_and (dt_cmp (od_neNilO hr.units) (de_name (pv 5)) (de_lst (da_nil)) (nomark _)) (dt_and1 (dt_cmp (od_eq hr.units) (de_call hgd (G__law_draw.mono (by decide)) hr (by rfl) T.g__law_draw T.F__law_draw.kp T.b__law_draw pass0 (da_cons (de_name (pv 0)) (da_cons (de_int) (da_nil)))) (de_int) (nomark _))))) (ds_one (ds_expr (de_app (pe_bm PySem.F.plainAttrs_list PySem.F.slot_list_append PySem.F.type_list_append mt_append (de_name (pv 5)) (pa_cons (de_ix xd_ix (de_name (pv 5)) (de_un ud_neg (de_int)) (fun _ _ => rfl)) pa_nil))))) (ds_one (ds_expr (de_app (pe_bm PySem.F.plainAttrs_list PySem.F.slot_list_append PySem.F.type_list_append mt_append (de_name (pv 5)) (pa_cons (de_op od_add (de_name (pv 4)) (de_call hgd (G__law_draw.mono (by decide)) hr (by rfl) T.g__law_draw T.F__law_draw.kp T.b__law_draw pass0 (da_cons (de_name (pv 0)) (da_cons (de_op od_add (de_name (pv 3)) (de_int)) (da_nil))))) pa_nil)))))))))) (ds_one (ds_ret (de_callTy cd_tuple (by rfl) T.m_tuple (by decide +kernel) (da_cons (de_name (pv 5)) (da_nil))))))))), fun ds M P h => (sem h).2⟩)
theorem ok__law_edit (T : Tx K mg) (G__law_draw : FnG P w K mg base CX0 1 T.f__law_draw T.fd__law_draw ["_law_deck_here", "_law_many"] (spD K gDraw))
    (sem : ∀ {ds : List D} {M : Mem} {P : DK}, gEditE ds M P → ds.length = 2 ∧ w_editE (ends P) (ds.map some ++ List.replicate (4 - ds.length) none) M) :
    FnG P w K mg base CX0 2 T.f__law_edit T.fd__law_edit ["_law_deck_here", "_law_ring_here"] (spD K gEditE) :=
  okD (k := 1) T.F__law_edit sc__law_edit (fun ds M P h => (sem h).1) (fun cdv A outer s H E hgd hr => ⟨w_editE, ds_cons (ds_set (ps_set (i := 2) sc__law_edit.nd rfl (.inl rfl) (de_op od_add (de_ix xd_ix (de_name (pv 1)) (de_call hgd (G__law_draw.mono (by decide)) hr (by rfl) T.g__law_draw T.F__law_draw.kp T.b__law_draw pass0 (da_cons (de_name (pv 0)) (da_cons (de_callB cd_len (by rfl) T.m_len (by decide +kernel) (da_cons (de_name (pv 1)) (da_nil))) (da_nil)))) (fun _ _ => rfl)) (de_ix xd_ix (de_lst (da_cons (de_int) (da_cons (de_int) (da_cons (de_un ud_neg (de_int)) (da_cons (de_int) (da_cons (de_un ud_neg (de_int)) (da_nil))))))) (de_call hgd (G__law_draw.mono (by decide)) hr (by rfl) T.g__law_draw T.F__law_draw.kp T.b__law_draw pass0 (da_cons (de_name (pv 0)) (da_cons (de_int) (da_nil)))) (fun _ _ => rfl))))) (ds_cons (ds_set (ps_set (i := 2) sc__law_edit.nd rfl (.inl rfl) (de_ix xd_ix (de_lst (da_cons (de_name (pv 2)) (da_cons (de_name (pv 2)) (da_cons (de_op od_sub (de_call hgd (G__law_draw.mono (by decide)) hr (by rfl) T.g__law_draw T.F__law_draw.kp T.b__law_draw pass0 (da_cons (de_name (pv 0)) (da_cons (de_int) (da_nil)))) (de_int)) (da_cons (de_op od_pow (de_int) (de_int)) (da_cons (de_un ud_neg (de_op od_pow (de_int) (de_int))) (da_nil))))))) (de_call hgd (G__law_draw.mono (by decide)) hr (by rfl) T.g__law_draw T.F__law_draw.kp T.b__law_draw pass0 (da_cons (de_name (pv 0)) (da_cons (de_int) (da_nil)))) (fun _ _ => rfl)))) (ds_cons (ds_set (ps_set (i := 2) sc__law_edit.nd rfl (.inl rfl) (de_callB (cd_max (by rfl)) (by rfl) T.m_max (by decide +kernel) (da_cons (de_un ud_neg (de_op od_pow (de_int) (de_int))) (da_cons (de_callB (cd_min (by rfl)) (by rfl) T.m_min (by decide +kernel) (da_cons (de_op od_pow (de_int) (de_int)) (da_cons (de_name (pv 2)) (da_nil)))) (da_nil)))))) (ds_cons (ds_set (ps_set (i := 3) sc__law_edit.nd rfl (.inl rfl) (de_call hgd (G__law_draw.mono (by decide)) hr (by rfl) T.g__law_draw T.F__law_draw.kp T.b__law_draw pass0 (da_cons (de_name (pv 0)) (da_cons (de_int) (da_nil)))))) (ds_cons (ds_if (DTw.dt (dt_and (dt_cmp (od_eq hr.units) (de_name (pv 3)) (de_int) (nomark _)) (dt_and1 (dt_cmp od_lt (de_callB cd_len (by rfl) T.m_len (by decide +kernel) (da_cons (de_name (pv 1)) (da_nil))) (de_int) (nomark _))))) (ds_one (ds_ret (de_tup (da_cons (de_str) (da_cons (de_call hgd (G__law_draw.mono (by decide)) hr (by rfl) T.g__law_draw T.F__law_draw.kp T.b__law_draw pass0 (da_cons (de_name (pv 0)) (da_cons (de_op od_add (de_callB cd_len (by rfl) T.m_len (by decide +kernel) (da_cons (de_name (pv 1)) (da_nil))) (de_int)) (da_nil)))) (da_cons (de_name (pv 2)) (da_nil))))))) (ds_nil)) (ds_cons (ds_if (DTw.dt (dt_and (dt_cmp (od_eq hr.units) (de_name (pv 3)) (de_int) (nomark _)) (dt_and1 (dt_cmp od_gt (de_callB cd_len (by rfl) T.m_len (by decide +kernel) (da_cons (de_name (pv 1)) (da_nil))) (de_int) (nomark _))))) (ds_one (ds_ret (de_tup (da_cons (de_str) (da_cons (de_call hgd (G__law_draw.mono (by decide)) hr (by rfl) T.g__law_draw T.F__law_draw.kp T.b__law_draw pass0 (da_cons (de_name (pv 0)) (da_cons (de_callB cd_len (by rfl) T.m_len (by decide +kernel) (da_cons (de_name (pv 1)) (da_nil))) (da_nil)))) (da_nil)))))) (ds_nil)) (ds_one (ds_ret (de_tup (da_cons (de_str) (da_cons (de_call hgd (G__law_draw.mono (by decide)) hr (by rfl) T.g__law_draw T.F__law_draw.kp T.b__law_draw pass0 (da_cons (de_name (pv 0)) (da_cons (de_callB cd_len (by rfl) T.m_len (by decide +kernel) (da_cons (de_name (pv 1)) (da_nil))) (da_nil)))) (da_cons (de_name (pv 2)) (da_nil)))))))))))), fun ds M P h => (sem h).2⟩)
theorem ok__law_after (T : Tx K mg)
    (sem : ∀ {ds : List D} {M : Mem} {P : DK}, gAfterE ds M P → ds.length = 2 ∧ w_afterE (ends P) (ds.map some ++ List.replicate (3 - ds.length) none) M) :
    FnG P w K mg base CX0 1 T.f__law_after T.fd__law_after ["_law_ring_here", "_law_edit_here"] (spD K gAfterE) :=
  okD (k := 0) T.F__law_after sc__law_after (fun ds M P h => (sem h).1) (fun cdv A outer s H E hgd hr => ⟨w_afterE, ds_cons (ds_set (ps_set (i := 2) sc__law_after.nd rfl (.inl rfl) (de_ix xd_ix (de_name (pv 1)) (de_int) (fun _ _ => rfl)))) (ds_cons (ds_if (dt_cmp (od_eq hr.units) (de_ix xd_ix (de_name (pv 1)) (de_int) (fun _ _ => rfl)) (de_str) (nomark _)) (ds_one (ds_ret (de_op od_add (de_op od_add (de_slice (de_name (pv 0)) (do_none) (do_some (de_name (pv 2)))) (de_tup (da_cons (de_ix xd_ix (de_name (pv 1)) (de_int) (fun _ _ => rfl)) (da_nil)))) (de_slice (de_name (pv 0)) (do_some (de_op od_add (de_name (pv 2)) (de_int))) (do_none))))) (ds_nil)) (ds_cons (ds_if (dt_cmp (od_eq hr.units) (de_ix xd_ix (de_name (pv 1)) (de_int) (fun _ _ => rfl)) (de_str) (nomark _)) (ds_one (ds_ret (de_op od_add (de_op od_add (de_slice (de_name (pv 0)) (do_none) (do_some (de_name (pv 2)))) (de_tup (da_cons (de_ix xd_ix (de_name (pv 1)) (de_int) (fun _ _ => rfl)) (da_nil)))) (de_slice (de_name (pv 0)) (do_some (de_name (pv 2))) (do_none))))) (ds_nil)) (ds_one (ds_ret (de_op od_add (de_slice (de_name (pv 0)) (do_none) (do_some (de_name (pv 2)))) (de_slice (de_name (pv 0)) (do_some (de_op od_add (de_name (pv 2)) (de_int))) (do_none))))))), fun ds M P h => (sem h).2⟩)
theorem ok__law_do (T : Tx K mg) (G_Board_remove : FnG P w K mg base (L2.CX P w) 11 T.f_Board_remove T.fd_Board_remove ["self", "place"] (spX K T.ct (gZ_Board_remove (okBC T.oA_Board T.oA_CalmBoard) (fun C => if C = T.oA_CalmBoard then (gC_CalmBoard_keep T.oA_CalmBoard) else (gZ_Board_keep (okBC T.oA_Board T.oA_CalmBoard)))))) (G_Board_put : FnG P w K mg base (L2.CX P w) 11 T.f_Board_put T.fd_Board_put ["self", "place", "height"] (spX K T.ct (gZ_Board_put (okBC T.oA_Board T.oA_CalmBoard) (fun C => if C = T.oA_CalmBoard then (gC_CalmBoard_keep T.oA_CalmBoard) else (gZ_Board_keep (okBC T.oA_Board T.oA_CalmBoard)))))) (G_Board_insert : FnG P w K mg base (L2.CX P w) 11 T.f_Board_insert T.fd_Board_insert ["self", "place", "height"] (spX K T.ct (gZ_Board_insert (okBC T.oA_Board T.oA_CalmBoard) (fun C => if C = T.oA_CalmBoard then (gC_CalmBoard_keep T.oA_CalmBoard) else (gZ_Board_keep (okBC T.oA_Board T.oA_CalmBoard))))))
    (sem : ∀ {ds : List D} {M : Mem} {P : DK} {PX : DXK}, (gDoZ (okBC T.oA_Board T.oA_CalmBoard) (fun C => if C = T.oA_CalmBoard then (gC_CalmBoard_keep T.oA_CalmBoard) else (gZ_Board_keep (okBC T.oA_Board T.oA_CalmBoard)))) ds M P PX → ds.length = 2 ∧ (w_doZ (okBC T.oA_Board T.oA_CalmBoard) (fun C => if C = T.oA_CalmBoard then (gC_CalmBoard_keep T.oA_CalmBoard) else (gZ_Board_keep (okBC T.oA_Board T.oA_CalmBoard)))) (endsX P PX) (ds.map some ++ List.replicate (2 - ds.length) none) M) :
    FnG P w K mg base (L2.CX P w) 12 T.f__law_do T.fd__law_do ["_law_table", "_law_edit_here"] (spX K T.ct (gDoZ (okBC T.oA_Board T.oA_CalmBoard) (fun C => if C = T.oA_CalmBoard then (gC_CalmBoard_keep T.oA_CalmBoard) else (gZ_Board_keep (okBC T.oA_Board T.oA_CalmBoard))))) :=
  okDX (k := 11) T.F__law_do sc__law_do (fun ds M P PX h => (sem h).1) (fun cdv A outer s H E hgd hr => ⟨(w_doZ (okBC T.oA_Board T.oA_CalmBoard) (fun C => if C = T.oA_CalmBoard then (gC_CalmBoard_keep T.oA_CalmBoard) else (gZ_Board_keep (okBC T.oA_Board T.oA_CalmBoard)))), ds_cons (ds_if (dt_cmp (od_eq hr.units) (de_ix xd_ix (de_name (pv 1)) (de_int) (fun _ _ => rfl)) (de_str) (nomark _)) (ds_one (ds_retX (dex_met (fun _ _ _ _ z => z) GRel.all (pe_met hgd (de_name (pv 0)) (fun C (hC : C = T.oA_Board ∨ C = T.oA_CalmBoard) => hC.elim (fun h => by subst h; exact ⟨T.cl_Board, ⟨_, _, _, _, T.mt_Board_put, G_Board_put.mono (by decide), MBn.all T.b_Board_put⟩⟩) (fun h => by subst h; exact ⟨T.cl_CalmBoard, ⟨_, _, _, _, T.mi_CalmBoard_Board_put, G_Board_put.mono (by decide), MBn.all T.b_Board_put⟩⟩)) (errX (takes_of rfl rfl rfl rfl)) hr (da_cons (de_ix xd_ix (de_name (pv 1)) (de_int) (fun _ _ => rfl)) (da_cons (de_ix xd_ix (de_name (pv 1)) (de_int) (fun _ _ => rfl)) (da_nil))))))) (ds_nil)) (ds_cons (ds_if (dt_cmp (od_eq hr.units) (de_ix xd_ix (de_name (pv 1)) (de_int) (fun _ _ => rfl)) (de_str) (nomark _)) (ds_one (ds_retX (dex_met (fun _ _ _ _ z => z) GRel.all (pe_met hgd (de_name (pv 0)) (fun C (hC : C = T.oA_Board ∨ C = T.oA_CalmBoard) => hC.elim (fun h => by subst h; exact ⟨T.cl_Board, ⟨_, _, _, _, T.mt_Board_insert, G_Board_insert.mono (by decide), MBn.all T.b_Board_insert⟩⟩) (fun h => by subst h; exact ⟨T.cl_CalmBoard, ⟨_, _, _, _, T.mi_CalmBoard_Board_insert, G_Board_insert.mono (by decide), MBn.all T.b_Board_insert⟩⟩)) (errX (takes_of rfl rfl rfl rfl)) hr (da_cons (de_ix xd_ix (de_name (pv 1)) (de_int) (fun _ _ => rfl)) (da_cons (de_ix xd_ix (de_name (pv 1)) (de_int) (fun _ _ => rfl)) (da_nil))))))) (ds_nil)) (ds_one (ds_retX (dex_met (fun _ _ _ _ z => z) GRel.all (pe_met hgd (de_name (pv 0)) (fun C (hC : C = T.oA_Board ∨ C = T.oA_CalmBoard) => hC.elim (fun h => by subst h; exact ⟨T.cl_Board, ⟨_, _, _, _, T.mt_Board_remove, G_Board_remove.mono (by decide), MBn.all T.b_Board_remove⟩⟩) (fun h => by subst h; exact ⟨T.cl_CalmBoard, ⟨_, _, _, _, T.mi_CalmBoard_Board_remove, G_Board_remove.mono (by decide), MBn.all T.b_Board_remove⟩⟩)) (errX (takes_of rfl rfl rfl rfl)) hr (da_cons (de_ix xd_ix (de_name (pv 1)) (de_int) (fun _ _ => rfl)) (da_nil))))))), fun ds M P PX h => (sem h).2⟩)
theorem ok__law_flags (T : Tx K mg)
    (sem : ∀ {ds : List D} {M : Mem} {P : DK}, (g__law_flags [T.c_LastPlace, T.c_OutOfRange, T.c_TooManyEdits, T.c_NothingToUndo, T.c_BadEdits, T.c_NotDistinct, T.c_TooLong, T.c_BadRing, T.c_BadHeight, T.c_BadTolerance, T.c_BadTurns, T.c_Restless, T.c_BadEdit, T.c_Rejected, T.c_BadText, T.c_NoIndex, T.c_NoPlace, T.c_NoVersion, T.c_RingError]) ds M P → ds.length = 1 ∧ (w__law_flags [T.c_LastPlace, T.c_OutOfRange, T.c_TooManyEdits, T.c_NothingToUndo, T.c_BadEdits, T.c_NotDistinct, T.c_TooLong, T.c_BadRing, T.c_BadHeight, T.c_BadTolerance, T.c_BadTurns, T.c_Restless, T.c_BadEdit, T.c_Rejected, T.c_BadText, T.c_NoIndex, T.c_NoPlace, T.c_NoVersion, T.c_RingError]) (ends P) (ds.map some ++ List.replicate (2 - ds.length) none) M) :
    FnG P w K mg base CX0 1 T.f__law_flags T.fd__law_flags ["_law_e"] (spD K (g__law_flags [T.c_LastPlace, T.c_OutOfRange, T.c_TooManyEdits, T.c_NothingToUndo, T.c_BadEdits, T.c_NotDistinct, T.c_TooLong, T.c_BadRing, T.c_BadHeight, T.c_BadTolerance, T.c_BadTurns, T.c_Restless, T.c_BadEdit, T.c_Rejected, T.c_BadText, T.c_NoIndex, T.c_NoPlace, T.c_NoVersion, T.c_RingError])) :=
  okD (k := 0) T.F__law_flags sc__law_flags (fun ds M P h => (sem h).1) (fun cdv A outer s H E hgd hr => ⟨(w__law_flags [T.c_LastPlace, T.c_OutOfRange, T.c_TooManyEdits, T.c_NothingToUndo, T.c_BadEdits, T.c_NotDistinct, T.c_TooLong, T.c_BadRing, T.c_BadHeight, T.c_BadTolerance, T.c_BadTurns, T.c_Restless, T.c_BadEdit, T.c_Rejected, T.c_BadText, T.c_NoIndex, T.c_NoPlace, T.c_NoVersion, T.c_RingError]), ds_cons (ds_set (ps_set (i := 1) sc__law_flags.nd rfl (.inl rfl) (de_lst (da_cons (de_callB (cd_isV (.own _) T.xcs T.kv_LastPlace) (by rfl) T.m_isinstance (by decide +kernel) (da_cons (de_name (pv 0)) (da_cons (de_clsC (pe_glob (by rfl) T.m_LastPlace rfl)) da_nil))) (da_cons (de_callB (cd_isV (.own _) T.xcs T.kv_OutOfRange) (by rfl) T.m_isinstance (by decide +kernel) (da_cons (de_name (pv 0)) (da_cons (de_clsC (pe_glob (by rfl) T.m_OutOfRange rfl)) da_nil))) (da_cons (de_callB (cd_isV (.own _) T.xcs T.kv_TooManyEdits) (by rfl) T.m_isinstance (by decide +kernel) (da_cons (de_name (pv 0)) (da_cons (de_clsC (pe_glob (by rfl) T.m_TooManyEdits rfl)) da_nil))) (da_nil))))))) (ds_cons (ds_set (ps_set (i := 1) sc__law_flags.nd rfl (.inl rfl) (de_op od_add (de_name (pv 1)) (de_lst (da_cons (de_callB (cd_isV (.own _) T.xcs T.kv_NothingToUndo) (by rfl) T.m_isinstance (by decide +kernel) (da_cons (de_name (pv 0)) (da_cons (de_clsC (pe_glob (by rfl) T.m_NothingToUndo rfl)) da_nil))) (da_cons (de_callB (cd_isV (.own _) T.xcs T.kv_BadEdits) (by rfl) T.m_isinstance (by decide +kernel) (da_cons (de_name (pv 0)) (da_cons (de_clsC (pe_glob (by rfl) T.m_BadEdits rfl)) da_nil))) (da_cons (de_callB (cd_isV (.own _) T.xcs T.kv_NotDistinct) (by rfl) T.m_isinstance (by decide +kernel) (da_cons (de_name (pv 0)) (da_cons (de_clsC (pe_glob (by rfl) T.m_NotDistinct rfl)) da_nil))) (da_nil)))))))) (ds_cons (ds_set (ps_set (i := 1) sc__law_flags.nd rfl (.inl rfl) (de_op od_add (de_name (pv 1)) (de_lst (da_cons (de_callB (cd_isV (.own _) T.xcs T.kv_TooLong) (by rfl) T.m_isinstance (by decide +kernel) (da_cons (de_name (pv 0)) (da_cons (de_clsC (pe_glob (by rfl) T.m_TooLong rfl)) da_nil))) (da_cons (de_callB (cd_isV (.own _) T.xcs T.kv_BadRing) (by rfl) T.m_isinstance (by decide +kernel) (da_cons (de_name (pv 0)) (da_cons (de_clsC (pe_glob (by rfl) T.m_BadRing rfl)) da_nil))) (da_cons (de_callB (cd_isV (.own _) T.xcs T.kv_BadHeight) (by rfl) T.m_isinstance (by decide +kernel) (da_cons (de_name (pv 0)) (da_cons (de_clsC (pe_glob (by rfl) T.m_BadHeight rfl)) da_nil))) (da_nil)))))))) (ds_cons (ds_set (ps_set (i := 1) sc__law_flags.nd rfl (.inl rfl) (de_op od_add (de_name (pv 1)) (de_lst (da_cons (de_callB (cd_isV (.own _) T.xcs T.kv_BadTolerance) (by rfl) T.m_isinstance (by decide +kernel) (da_cons (de_name (pv 0)) (da_cons (de_clsC (pe_glob (by rfl) T.m_BadTolerance rfl)) da_nil))) (da_cons (de_callB (cd_isV (.own _) T.xcs T.kv_BadTurns) (by rfl) T.m_isinstance (by decide +kernel) (da_cons (de_name (pv 0)) (da_cons (de_clsC (pe_glob (by rfl) T.m_BadTurns rfl)) da_nil))) (da_cons (de_callB (cd_isV (.own _) T.xcs T.kv_Restless) (by rfl) T.m_isinstance (by decide +kernel) (da_cons (de_name (pv 0)) (da_cons (de_clsC (pe_glob (by rfl) T.m_Restless rfl)) da_nil))) (da_nil)))))))) (ds_cons (ds_set (ps_set (i := 1) sc__law_flags.nd rfl (.inl rfl) (de_op od_add (de_name (pv 1)) (de_lst (da_cons (de_callB (cd_isV (.own _) T.xcs T.kv_BadEdit) (by rfl) T.m_isinstance (by decide +kernel) (da_cons (de_name (pv 0)) (da_cons (de_clsC (pe_glob (by rfl) T.m_BadEdit rfl)) da_nil))) (da_cons (de_callB (cd_isV (.own _) T.xcs T.kv_Rejected) (by rfl) T.m_isinstance (by decide +kernel) (da_cons (de_name (pv 0)) (da_cons (de_clsC (pe_glob (by rfl) T.m_Rejected rfl)) da_nil))) (da_cons (de_callB (cd_isV (.own _) T.xcs T.kv_BadText) (by rfl) T.m_isinstance (by decide +kernel) (da_cons (de_name (pv 0)) (da_cons (de_clsC (pe_glob (by rfl) T.m_BadText rfl)) da_nil))) (da_cons (de_callB (cd_isV (.own _) T.xcs T.kv_NoIndex) (by rfl) T.m_isinstance (by decide +kernel) (da_cons (de_name (pv 0)) (da_cons (de_clsC (pe_glob (by rfl) T.m_NoIndex rfl)) da_nil))) (da_nil))))))))) (ds_one (ds_ret (de_op od_add (de_name (pv 1)) (de_lst (da_cons (de_callB (cd_isV (.own _) T.xcs T.kv_NoPlace) (by rfl) T.m_isinstance (by decide +kernel) (da_cons (de_name (pv 0)) (da_cons (de_clsC (pe_glob (by rfl) T.m_NoPlace rfl)) da_nil))) (da_cons (de_callB (cd_isV (.own _) T.xcs T.kv_NoVersion) (by rfl) T.m_isinstance (by decide +kernel) (da_cons (de_name (pv 0)) (da_cons (de_clsC (pe_glob (by rfl) T.m_NoVersion rfl)) da_nil))) (da_nil))))))))))), fun ds M P h => (sem h).2⟩)
theorem ok__law_errors_right (T : Tx K mg) (G__law_flags : FnG P w K mg base CX0 1 T.f__law_flags T.fd__law_flags ["_law_e"] (spD K (g__law_flags [T.c_LastPlace, T.c_OutOfRange, T.c_TooManyEdits, T.c_NothingToUndo, T.c_BadEdits, T.c_NotDistinct, T.c_TooLong, T.c_BadRing, T.c_BadHeight, T.c_BadTolerance, T.c_BadTurns, T.c_Restless, T.c_BadEdit, T.c_Rejected, T.c_BadText, T.c_NoIndex, T.c_NoPlace, T.c_NoVersion, T.c_RingError]))) (GI_NotDistinct : FnOk P w K mg base CX0 1 T.fI_NotDistinct T.fdI_NotDistinct ["self", "height"] (spIniB T.c_NotDistinct "height" [.type "ValueError", .type "Exception", .type "BaseException", .type "object"] "ValueError.__new__" K)) (GI_TooLong : FnOk P w K mg base CX0 1 T.fI_TooLong T.fdI_TooLong ["self", "bound"] (spIniB T.c_TooLong "bound" [.type "ValueError", .type "Exception", .type "BaseException", .type "object"] "ValueError.__new__" K)) (GI_BadRing : FnOk P w K mg base CX0 1 T.fI_BadRing T.fdI_BadRing ["self", "error"] (spIniB T.c_BadRing "error" [.type "ValueError", .type "Exception", .type "BaseException", .type "object"] "ValueError.__new__" K)) (GI_BadHeight : FnOk P w K mg base CX0 1 T.fI_BadHeight T.fdI_BadHeight ["self", "value"] (spIniB T.c_BadHeight "value" [.type "ValueError", .type "Exception", .type "BaseException", .type "object"] "ValueError.__new__" K)) (GI_BadTolerance : FnOk P w K mg base CX0 1 T.fI_BadTolerance T.fdI_BadTolerance ["self", "value"] (spIniB T.c_BadTolerance "value" [.type "ValueError", .type "Exception", .type "BaseException", .type "object"] "ValueError.__new__" K)) (GI_BadTurns : FnOk P w K mg base CX0 1 T.fI_BadTurns T.fdI_BadTurns ["self", "value"] (spIniB T.c_BadTurns "value" [.type "ValueError", .type "Exception", .type "BaseException", .type "object"] "ValueError.__new__" K)) (GI_Restless : FnOk P w K mg base CX0 1 T.fI_Restless T.fdI_Restless ["self", "number"] (spIniB T.c_Restless "number" [.type "ValueError", .type "Exception", .type "BaseException", .type "object"] "ValueError.__new__" K)) (GI_BadEdit : FnOk P w K mg base CX0 1 T.fI_BadEdit T.fdI_BadEdit ["self", "index"] (spIniB T.c_BadEdit "index" [.type "ValueError", .type "Exception", .type "BaseException", .type "object"] "ValueError.__new__" K)) (GI_Rejected : FnOk P w K mg base CX0 1 T.fI_Rejected T.fdI_Rejected ["self", "index"] (spIniB T.c_Rejected "index" [.type "ValueError", .type "Exception", .type "BaseException", .type "object"] "ValueError.__new__" K)) (GI_BadText : FnOk P w K mg base CX0 1 T.fI_BadText T.fdI_BadText ["self", "index"] (spIniB T.c_BadText "index" [.type "ValueError", .type "Exception", .type "BaseException", .type "object"] "ValueError.__new__" K)) (GI_NoIndex : FnOk P w K mg base CX0 1 T.fI_NoIndex T.fdI_NoIndex ["self", "value"] (spIniB T.c_NoIndex "value" [.type "LookupError", .type "Exception", .type "BaseException", .type "object"] "LookupError.__new__" K)) (GI_NoPlace : FnOk P w K mg base CX0 1 T.fI_NoPlace T.fdI_NoPlace ["self", "value"] (spIniB T.c_NoPlace "value" [.type "LookupError", .type "Exception", .type "BaseException", .type "object"] "LookupError.__new__" K)) (GI_NoVersion : FnOk P w K mg base CX0 1 T.fI_NoVersion T.fdI_NoVersion ["self", "value"] (spIniB T.c_NoVersion "value" [.type "LookupError", .type "Exception", .type "BaseException", .type "object"] "LookupError.__new__" K))
    (sem : ∀ {ds : List D} {M : Mem} {P : DK}, g__law_errors_right ds M P → ds.length = 1 ∧ (w__law_errors_right [T.c_LastPlace, T.c_OutOfRange, T.c_TooManyEdits, T.c_NothingToUndo, T.c_BadEdits, T.c_NotDistinct, T.c_TooLong, T.c_BadRing, T.c_BadHeight, T.c_BadTolerance, T.c_BadTurns, T.c_Restless, T.c_BadEdit, T.c_Rejected, T.c_BadText, T.c_NoIndex, T.c_NoPlace, T.c_NoVersion, T.c_RingError]) (ends P) (ds.map some ++ List.replicate (7 - ds.length) none) M) :
    FnG P w K mg base CX0 4 T.f__law_errors_right T.fd__law_errors_right ["_law_value"] (spD K g__law_errors_right) :=
  okD (k := 3) T.F__law_errors_right sc__law_errors_right (fun ds M P h => (sem h).1) (fun cdv A outer s H E hgd hr => ⟨(w__law_errors_right [T.c_LastPlace, T.c_OutOfRange, T.c_TooManyEdits, T.c_NothingToUndo, T.c_BadEdits, T.c_NotDistinct, T.c_TooLong, T.c_BadRing, T.c_BadHeight, T.c_BadTolerance, T.c_BadTurns, T.c_Restless, T.c_BadEdit, T.c_Rejected, T.c_BadText, T.c_NoIndex, T.c_NoPlace, T.c_NoVersion, T.c_RingError]), ds_cons (ds_set (ps_set (i := 1) sc__law_errors_right.nd rfl (.inl rfl) (de_lst (da_cons (de_mk0V (pmk_own0 PySem.F.excBase_ValueError T.q_LastPlace T.m_LastPlace T.kc_LastPlace (raises_own T.xc_LastPlace.hs T.ty_LastPlace) (by rfl))) (da_cons (de_mk0V (pmk_own0 PySem.F.excBase_ValueError T.q_OutOfRange T.m_OutOfRange T.kc_OutOfRange (raises_own T.xc_OutOfRange.hs T.ty_OutOfRange) (by rfl))) (da_cons (de_mk0V (pmk_own0 PySem.F.excBase_ValueError T.q_TooManyEdits T.m_TooManyEdits T.kc_TooManyEdits (raises_own T.xc_TooManyEdits.hs T.ty_TooManyEdits) (by rfl))) (da_cons (de_mk0V (pmk_own0 PySem.F.excBase_ValueError T.q_NothingToUndo T.m_NothingToUndo T.kc_NothingToUndo (raises_own T.xc_NothingToUndo.hs T.ty_NothingToUndo) (by rfl))) (da_cons (de_mk0V (pmk_own0 PySem.F.excBase_ValueError T.q_BadEdits T.m_BadEdits T.kc_BadEdits (raises_own T.xc_BadEdits.hs T.ty_BadEdits) (by rfl))) (da_cons (de_mk1V PySem.F.excBase_ValueError T.o_NotDistinct T.n_NotDistinct T.i_NotDistinct T.y_NotDistinct GI_NotDistinct (hr.mono (by decide)) T.bI_NotDistinct (by rfl) T.m_NotDistinct (de_name (pv 0))) (da_nil)))))))))) (ds_cons (ds_set (ps_set (i := 1) sc__law_errors_right.nd rfl (.inl rfl) (de_op od_add (de_name (pv 1)) (de_lst (da_cons (de_mk1V PySem.F.excBase_ValueError T.o_TooLong T.n_TooLong T.i_TooLong T.y_TooLong GI_TooLong (hr.mono (by decide)) T.bI_TooLong (by rfl) T.m_TooLong (de_name (pv 0))) (da_cons (de_mk1V PySem.F.excBase_ValueError T.o_BadRing T.n_BadRing T.i_BadRing T.y_BadRing GI_BadRing (hr.mono (by decide)) T.bI_BadRing (by rfl) T.m_BadRing (de_name (pv 0))) (da_cons (de_mk1V PySem.F.excBase_ValueError T.o_BadHeight T.n_BadHeight T.i_BadHeight T.y_BadHeight GI_BadHeight (hr.mono (by decide)) T.bI_BadHeight (by rfl) T.m_BadHeight (de_name (pv 0))) (da_cons (de_mk1V PySem.F.excBase_ValueError T.o_BadTolerance T.n_BadTolerance T.i_BadTolerance T.y_BadTolerance GI_BadTolerance (hr.mono (by decide)) T.bI_BadTolerance (by rfl) T.m_BadTolerance (de_name (pv 0))) (da_cons (de_mk1V PySem.F.excBase_ValueError T.o_BadTurns T.n_BadTurns T.i_BadTurns T.y_BadTurns GI_BadTurns (hr.mono (by decide)) T.bI_BadTurns (by rfl) T.m_BadTurns (de_name (pv 0))) (da_nil)))))))))) (ds_cons (ds_set (ps_set (i := 1) sc__law_errors_right.nd rfl (.inl rfl) (de_op od_add (de_name (pv 1)) (de_lst (da_cons (de_mk1V PySem.F.excBase_ValueError T.o_Restless T.n_Restless T.i_Restless T.y_Restless GI_Restless (hr.mono (by decide)) T.bI_Restless (by rfl) T.m_Restless (de_name (pv 0))) (da_cons (de_mk1V PySem.F.excBase_ValueError T.o_BadEdit T.n_BadEdit T.i_BadEdit T.y_BadEdit GI_BadEdit (hr.mono (by decide)) T.bI_BadEdit (by rfl) T.m_BadEdit (de_name (pv 0))) (da_cons (de_mk1V PySem.F.excBase_ValueError T.o_Rejected T.n_Rejected T.i_Rejected T.y_Rejected GI_Rejected (hr.mono (by decide)) T.bI_Rejected (by rfl) T.m_Rejected (de_name (pv 0))) (da_cons (de_mk1V PySem.F.excBase_ValueError T.o_BadText T.n_BadText T.i_BadText T.y_BadText GI_BadText (hr.mono (by decide)) T.bI_BadText (by rfl) T.m_BadText (de_name (pv 0))) (da_cons (de_mk1V PySem.F.excBase_LookupError T.o_NoIndex T.n_NoIndex T.i_NoIndex T.y_NoIndex GI_NoIndex (hr.mono (by decide)) T.bI_NoIndex (by rfl) T.m_NoIndex (de_name (pv 0))) (da_nil)))))))))) (ds_cons (ds_set (ps_set (i := 1) sc__law_errors_right.nd rfl (.inl rfl) (de_op od_add (de_name (pv 1)) (de_lst (da_cons (de_mk1V PySem.F.excBase_LookupError T.o_NoPlace T.n_NoPlace T.i_NoPlace T.y_NoPlace GI_NoPlace (hr.mono (by decide)) T.bI_NoPlace (by rfl) T.m_NoPlace (de_name (pv 0))) (da_cons (de_mk1V PySem.F.excBase_LookupError T.o_NoVersion T.n_NoVersion T.i_NoVersion T.y_NoVersion GI_NoVersion (hr.mono (by decide)) T.bI_NoVersion (by rfl) T.m_NoVersion (de_name (pv 0))) (da_nil))))))) (ds_cons (ds_for (ps_for (g := tgT K (Tg.nm 2)) PassesOwn.never rfl (di_range1 (by rfl) T.m_range (da_cons (de_int) (da_nil))) (pg_name (i := 2) sc__law_errors_right.nd rfl (.inr rfl)) (ds_cons (ds_set (ps_set (i := 3) sc__law_errors_right.nd rfl (.inl rfl) (de_lst (da_cons (de_callB (cd_isV (.own _) T.xcs T.kv_RingError) (by rfl) T.m_isinstance (by decide +kernel) (da_cons (de_ix xd_ix (de_name (pv 1)) (de_name (pv 2)) (fun _ _ => rfl)) (da_cons (de_clsC (pe_glob (by rfl) T.m_RingError rfl)) da_nil))) (da_cons (de_callB (cd_isV (.ty _) T.xcs T.kv_ValueError) (by rfl) T.m_isinstance (by decide +kernel) (da_cons (de_ix xd_ix (de_name (pv 1)) (de_name (pv 2)) (fun _ _ => rfl)) (da_cons (de_ty (pe_bltn (by rfl) T.m_ValueError (by decide +kernel) rfl)) da_nil))) (da_cons (de_callB (cd_isV (.ty _) T.xcs T.kv_LookupError) (by rfl) T.m_isinstance (by decide +kernel) (da_cons (de_ix xd_ix (de_name (pv 1)) (de_name (pv 2)) (fun _ _ => rfl)) (da_cons (de_ty (pe_bltn (by rfl) T.m_LookupError (by decide +kernel) rfl)) da_nil))) (da_nil))))))) (ds_one (ds_if (DTw.dt (dt_or (dt_cmp (od_ne hr.units) (de_call hgd (G__law_flags.mono (by decide)) hr (by rfl) T.g__law_flags T.F__law_flags.kp T.b__law_flags pass0 (da_cons (de_ix xd_ix (de_name (pv 1)) (de_name (pv 2)) (fun _ _ => rfl)) (da_nil))) (de_lc (pe_lc (own := [("_law_j", 5)]) (g := tgT K (Tg.nm 5)) (tt := liftT K (wYes)) (te := lift K (wOp eqD (wName 5) (wName 2))) rfl sc__law_errors_right.nd (di_range1 (by rfl) T.m_range (da_cons (de_int) (da_nil))) (blkOk_by (own := [("_law_j", 5)]) (N := n__law_errors_right) (sc := defScope s__law_errors_right) (by decide +kernel)) (fun _ _ _ _ _ => pg_name (i := 5) sc__law_errors_right.nd rfl (Or.inl rfl)) (fun _ _ _ _ _ => dts_nil) (fun _ _ _ _ _ => de_cmp (od_eq hr.units) (de_name (pv 5)) (de_name (pv 2)) (nomark _)))) (nomark _)) (dt_or1 (dt_cmp (od_ne hr.units) (de_name (pv 3)) (de_lst (da_cons (de_cmp od_lt (de_name (pv 2)) (de_int) (nomark _)) (da_cons (de_cmp od_lt (de_name (pv 2)) (de_int) (nomark _)) (da_cons (de_cmp od_gt (de_name (pv 2)) (de_int) (nomark _)) (da_nil))))) (nomark _))))) (ds_one (ds_ret (de_bl))) (ds_nil)))))) (ds_cons (ds_set (ps_set (i := 4) sc__law_errors_right.nd rfl (.inl rfl) (de_lst (da_cons (de_fldV (pe_fldV (T.xc_NotDistinct.xf T.h_NotDistinct) T.n_NotDistinct (de_mk1V PySem.F.excBase_ValueError T.o_NotDistinct T.n_NotDistinct T.i_NotDistinct T.y_NotDistinct GI_NotDistinct (hr.mono (by decide)) T.bI_NotDistinct (by rfl) T.m_NotDistinct (de_name (pv 0))))) (da_cons (de_fldV (pe_fldV (T.xc_TooLong.xf T.h_TooLong) T.n_TooLong (de_mk1V PySem.F.excBase_ValueError T.o_TooLong T.n_TooLong T.i_TooLong T.y_TooLong GI_TooLong (hr.mono (by decide)) T.bI_TooLong (by rfl) T.m_TooLong (de_name (pv 0))))) (da_cons (de_fldV (pe_fldV (T.xc_BadRing.xf T.h_BadRing) T.n_BadRing (de_mk1V PySem.F.excBase_ValueError T.o_BadRing T.n_BadRing T.i_BadRing T.y_BadRing GI_BadRing (hr.mono (by decide)) T.bI_BadRing (by rfl) T.m_BadRing (de_name (pv 0))))) (da_cons (de_fldV (pe_fldV (T.xc_BadHeight.xf T.h_BadHeight) T.n_BadHeight (de_mk1V PySem.F.excBase_ValueError T.o_BadHeight T.n_BadHeight T.i_BadHeight T.y_BadHeight GI_BadHeight (hr.mono (by decide)) T.bI_BadHeight (by rfl) T.m_BadHeight (de_name (pv 0))))) (da_nil)))))))) (ds_cons (ds_set (ps_set (i := 4) sc__law_errors_right.nd rfl (.inl rfl) (de_op od_add (de_name (pv 4)) (de_lst (da_cons (de_fldV (pe_fldV (T.xc_BadTolerance.xf T.h_BadTolerance) T.n_BadTolerance (de_mk1V PySem.F.excBase_ValueError T.o_BadTolerance T.n_BadTolerance T.i_BadTolerance T.y_BadTolerance GI_BadTolerance (hr.mono (by decide)) T.bI_BadTolerance (by rfl) T.m_BadTolerance (de_name (pv 0))))) (da_cons (de_fldV (pe_fldV (T.xc_BadTurns.xf T.h_BadTurns) T.n_BadTurns (de_mk1V PySem.F.excBase_ValueError T.o_BadTurns T.n_BadTurns T.i_BadTurns T.y_BadTurns GI_BadTurns (hr.mono (by decide)) T.bI_BadTurns (by rfl) T.m_BadTurns (de_name (pv 0))))) (da_cons (de_fldV (pe_fldV (T.xc_Restless.xf T.h_Restless) T.n_Restless (de_mk1V PySem.F.excBase_ValueError T.o_Restless T.n_Restless T.i_Restless T.y_Restless GI_Restless (hr.mono (by decide)) T.bI_Restless (by rfl) T.m_Restless (de_name (pv 0))))) (da_cons (de_fldV (pe_fldV (T.xc_BadEdit.xf T.h_BadEdit) T.n_BadEdit (de_mk1V PySem.F.excBase_ValueError T.o_BadEdit T.n_BadEdit T.i_BadEdit T.y_BadEdit GI_BadEdit (hr.mono (by decide)) T.bI_BadEdit (by rfl) T.m_BadEdit (de_name (pv 0))))) (da_nil))))))))) (ds_cons (ds_set (ps_set (i := 4) sc__law_errors_right.nd rfl (.inl rfl) (de_op od_add (de_name (pv 4)) (de_lst (da_cons (de_fldV (pe_fldV (T.xc_Rejected.xf T.h_Rejected) T.n_Rejected (de_mk1V PySem.F.excBase_ValueError T.o_Rejected T.n_Rejected T.i_Rejected T.y_Rejected GI_Rejected (hr.mono (by decide)) T.bI_Rejected (by rfl) T.m_Rejected (de_name (pv 0))))) (da_cons (de_fldV (pe_fldV (T.xc_BadText.xf T.h_BadText) T.n_BadText (de_mk1V PySem.F.excBase_ValueError T.o_BadText T.n_BadText T.i_BadText T.y_BadText GI_BadText (hr.mono (by decide)) T.bI_BadText (by rfl) T.m_BadText (de_name (pv 0))))) (da_cons (de_fldV (pe_fldV (T.xc_NoIndex.xf T.h_NoIndex) T.n_NoIndex (de_mk1V PySem.F.excBase_LookupError T.o_NoIndex T.n_NoIndex T.i_NoIndex T.y_NoIndex GI_NoIndex (hr.mono (by decide)) T.bI_NoIndex (by rfl) T.m_NoIndex (de_name (pv 0))))) (da_cons (de_fldV (pe_fldV (T.xc_NoPlace.xf T.h_NoPlace) T.n_NoPlace (de_mk1V PySem.F.excBase_LookupError T.o_NoPlace T.n_NoPlace T.i_NoPlace T.y_NoPlace GI_NoPlace (hr.mono (by decide)) T.bI_NoPlace (by rfl) T.m_NoPlace (de_name (pv 0))))) (da_nil))))))))) (ds_one (ds_ret (de_cmp (od_eq hr.units) (de_lc (pe_lc (own := [("_law_field", 6)]) (g := tgT K (Tg.nm 6)) (tt := liftT K (wYes)) (te := lift K (wN reprX (wCons (wName 6) (wNil)))) rfl sc__law_errors_right.nd (di_seq (de_op od_add (de_name (pv 4)) (de_lst (da_cons (de_fldV (pe_fldV (T.xc_NoVersion.xf T.h_NoVersion) T.n_NoVersion (de_mk1V PySem.F.excBase_LookupError T.o_NoVersion T.n_NoVersion T.i_NoVersion T.y_NoVersion GI_NoVersion (hr.mono (by decide)) T.bI_NoVersion (by rfl) T.m_NoVersion (de_name (pv 0))))) (da_nil))))) (blkOk_by (own := [("_law_field", 6)]) (N := n__law_errors_right) (sc := defScope s__law_errors_right) (by decide +kernel)) (fun _ _ _ _ _ => pg_name (i := 6) sc__law_errors_right.nd rfl (Or.inl rfl)) (fun _ _ _ _ _ => dts_nil) (fun _ _ _ _ _ => de_callB (cd_reprX hgd hr.units) (by rfl) T.m_repr (by decide +kernel) (da_cons (de_name (pv 6)) (da_nil))))) (de_op od_mul (de_lst (da_cons (de_callB (cd_reprX hgd hr.units) (by rfl) T.m_repr (by decide +kernel) (da_cons (de_name (pv 0)) (da_nil))) (da_nil))) (de_int)) (nomark _))))))))))), fun ds M P h => (sem h).2⟩)
theorem ok__law_new (T : Tx K mg) (G_Board___init__ : FnG P w K mg base CX0 4 T.f_Board___init__ T.fd_Board___init__ ["self", "ring"] (spD K (gZ_Board___init__ (okBC T.oA_Board T.oA_CalmBoard)))) (G_CalmBoard___init__ : FnG P w K mg base (L2.CX P w) 10 T.f_CalmBoard___init__ T.fd_CalmBoard___init__ ["self", "ring", "tolerance", "turns"] (spX K T.ct (gC_CalmBoard___init__ T.oA_CalmBoard)))
    (sem : ∀ {ds : List D} {M : Mem} {P : DK}, (g__law_new (okBC T.oA_Board T.oA_CalmBoard) (fun C => if C = T.oA_CalmBoard then (gC_CalmBoard_keep T.oA_CalmBoard) else (gZ_Board_keep (okBC T.oA_Board T.oA_CalmBoard))) T.oA_Board T.oA_CalmBoard) ds M P → ds.length = 2 ∧ (w__law_new (okBC T.oA_Board T.oA_CalmBoard) T.oA_Board T.oA_CalmBoard) (ends P) (ds.map some ++ List.replicate (2 - ds.length) none) M) :
    FnG P w K mg base CX0 12 T.f__law_new T.fd__law_new ["_law_ring_here", "_law_is_calm"] (spD K (g__law_new (okBC T.oA_Board T.oA_CalmBoard) (fun C => if C = T.oA_CalmBoard then (gC_CalmBoard_keep T.oA_CalmBoard) else (gZ_Board_keep (okBC T.oA_Board T.oA_CalmBoard))) T.oA_Board T.oA_CalmBoard)) :=
  okD (k := 11) T.F__law_new sc__law_new (fun ds M P h => (sem h).1) (fun cdv A outer s H E hgd hr => ⟨(w__law_new (okBC T.oA_Board T.oA_CalmBoard) T.oA_Board T.oA_CalmBoard), ds_cons (ds_if (dt_val (de_name (pv 1))) (ds_one (ds_ret (de_makN (pe_mak hgd ⟨T.oc_CalmBoard.mks, T.mt_CalmBoard___init__.at_, T.mt_CalmBoard___init__.fn, T.oc_CalmBoard.kc⟩ (G_CalmBoard___init__.mono (by decide)) hr (by rfl) T.m_CalmBoard T.b_CalmBoard___init__ (errX takes0) (da_cons (de_name (pv 0)) (da_cons (de_int) (da_cons (de_int) (da_nil)))))))) (ds_nil)) (ds_one (ds_ret (de_mak (pe_mak hgd ⟨T.oc_Board.mks, T.mt_Board___init__.at_, T.mt_Board___init__.fn, T.oc_Board.kc⟩ (G_Board___init__.mono (by decide)) hr (by rfl) T.m_Board T.b_Board___init__ err0 (da_cons (de_name (pv 0)) (da_nil)))))), fun ds M P h => (sem h).2⟩)
theorem ok__law_pairs_right (T : Tx K mg) (G_CalmBoard___init__ : FnG P w K mg base (L2.CX P w) 10 T.f_CalmBoard___init__ T.fd_CalmBoard___init__ ["self", "ring", "tolerance", "turns"] (spX K T.ct (gC_CalmBoard___init__ T.oA_CalmBoard))) (G_Board___eq__ : FnG P w K mg base CX0 1 T.f_Board___eq__ T.fd_Board___eq__ ["self", "other"] (spD K (gE_Board___eq__ (okBC T.oA_Board T.oA_CalmBoard)))) (G_Board___init__ : FnG P w K mg base CX0 4 T.f_Board___init__ T.fd_Board___init__ ["self", "ring"] (spD K (gZ_Board___init__ (okBC T.oA_Board T.oA_CalmBoard))))
    (sem : ∀ {ds : List D} {M : Mem} {P : DK}, g__law_pairs_right ds M P → ds.length = 2 ∧ (w__law_pairs_right (okBC T.oA_Board T.oA_CalmBoard) T.oA_Board T.oA_CalmBoard) (ends P) (ds.map some ++ List.replicate (7 - ds.length) none) M) :
    FnG P w K mg base CX0 12 T.f__law_pairs_right T.fd__law_pairs_right ["_law_ring_here", "_law_other"] (spD K g__law_pairs_right) :=
  okD (k := 11) T.F__law_pairs_right sc__law_pairs_right (fun ds M P h => (sem h).1) (fun cdv A outer s H E hgd hr => ⟨(w__law_pairs_right (okBC T.oA_Board T.oA_CalmBoard) T.oA_Board T.oA_CalmBoard), ds_cons (ds_asg (ps_asg (g := tgT K (Tg.tp [Tg.nm 2, Tg.nm 3])) (de_tup (da_cons (de_lst (da_cons (de_mak (pe_mak hgd ⟨T.oc_Board.mks, T.mt_Board___init__.at_, T.mt_Board___init__.fn, T.oc_Board.kc⟩ (G_Board___init__.mono (by decide)) hr (by rfl) T.m_Board T.b_Board___init__ err0 (da_cons (de_name (pv 0)) (da_nil)))) (da_cons (de_mak (pe_mak hgd ⟨T.oc_Board.mks, T.mt_Board___init__.at_, T.mt_Board___init__.fn, T.oc_Board.kc⟩ (G_Board___init__.mono (by decide)) hr (by rfl) T.m_Board T.b_Board___init__ err0 (da_cons (de_name (pv 1)) (da_nil)))) (da_nil)))) (da_cons (de_lst (da_cons (de_makN (pe_mak hgd ⟨T.oc_CalmBoard.mks, T.mt_CalmBoard___init__.at_, T.mt_CalmBoard___init__.fn, T.oc_CalmBoard.kc⟩ (G_CalmBoard___init__.mono (by decide)) hr (by rfl) T.m_CalmBoard T.b_CalmBoard___init__ (errX takes0) (da_cons (de_name (pv 0)) (da_cons (de_int) (da_cons (de_int) (da_nil)))))) (da_cons (de_makN (pe_mak hgd ⟨T.oc_CalmBoard.mks, T.mt_CalmBoard___init__.at_, T.mt_CalmBoard___init__.fn, T.oc_CalmBoard.kc⟩ (G_CalmBoard___init__.mono (by decide)) hr (by rfl) T.m_CalmBoard T.b_CalmBoard___init__ (errX takes0) (da_cons (de_name (pv 1)) (da_cons (de_int) (da_cons (de_int) (da_nil)))))) (da_nil)))) (da_nil)))) (pg_sq rfl (pgs_cons (pg_name (i := 2) sc__law_pairs_right.nd rfl (.inl rfl)) (pgs_cons (pg_name (i := 3) sc__law_pairs_right.nd rfl (.inr rfl)) (pgs_nil)))))) (ds_cons (ds_set (ps_set (i := 4) sc__law_pairs_right.nd rfl (.inl rfl) (de_lst (da_cons (de_makN (pe_mak hgd ⟨T.oc_CalmBoard.mks, T.mt_CalmBoard___init__.at_, T.mt_CalmBoard___init__.fn, T.oc_CalmBoard.kc⟩ (G_CalmBoard___init__.mono (by decide)) hr (by rfl) T.m_CalmBoard T.b_CalmBoard___init__ (errX takes0) (da_cons (de_name (pv 0)) (da_cons (de_int) (da_cons (de_int) (da_nil)))))) (da_cons (de_makN (pe_mak hgd ⟨T.oc_CalmBoard.mks, T.mt_CalmBoard___init__.at_, T.mt_CalmBoard___init__.fn, T.oc_CalmBoard.kc⟩ (G_CalmBoard___init__.mono (by decide)) hr (by rfl) T.m_CalmBoard T.b_CalmBoard___init__ (errX takes0) (da_cons (de_name (pv 0)) (da_cons (de_int) (da_cons (de_int) (da_nil)))))) (da_cons (de_makN (pe_mak hgd ⟨T.oc_CalmBoard.mks, T.mt_CalmBoard___init__.at_, T.mt_CalmBoard___init__.fn, T.oc_CalmBoard.kc⟩ (G_CalmBoard___init__.mono (by decide)) hr (by rfl) T.m_CalmBoard T.b_CalmBoard___init__ (errX takes0) (da_cons (de_name (pv 0)) (da_cons (de_int) (da_cons (de_int) (da_nil)))))) (da_nil))))))) (ds_cons (ds_set (ps_set (i := 5) sc__law_pairs_right.nd rfl (.inl rfl) (de_lst (da_cons (de_cmp (od_eqJ hgd hr (fun C (hC : C = T.oA_Board ∨ C = T.oA_CalmBoard) => hC.elim (fun h => by subst h; exact T.ec_Board) (fun h => by subst h; exact T.ec_CalmBoard)) (eq_subs T.sb_01 T.sb_10) (G_Board___eq__.mono (by decide)) T.b_Board___eq__) (de_ix xd_ix (de_name (pv 2)) (de_int) (fun _ _ => rfl)) (de_ix xd_ix (de_name (pv 2)) (de_int) (fun _ _ => rfl)) (nomark _)) (da_cons (de_cmp (od_eqJ hgd hr (fun C (hC : C = T.oA_Board ∨ C = T.oA_CalmBoard) => hC.elim (fun h => by subst h; exact T.ec_Board) (fun h => by subst h; exact T.ec_CalmBoard)) (eq_subs T.sb_01 T.sb_10) (G_Board___eq__.mono (by decide)) T.b_Board___eq__) (de_ix xd_ix (de_name (pv 3)) (de_int) (fun _ _ => rfl)) (de_ix xd_ix (de_name (pv 3)) (de_int) (fun _ _ => rfl)) (nomark _)) (da_cons (de_cmp (od_eqJ hgd hr (fun C (hC : C = T.oA_Board ∨ C = T.oA_CalmBoard) => hC.elim (fun h => by subst h; exact T.ec_Board) (fun h => by subst h; exact T.ec_CalmBoard)) (eq_subs T.sb_01 T.sb_10) (G_Board___eq__.mono (by decide)) T.b_Board___eq__) (de_ix xd_ix (de_name (pv 2)) (de_int) (fun _ _ => rfl)) (de_ix xd_ix (de_name (pv 3)) (de_int) (fun _ _ => rfl)) (nomark _)) (da_cons (de_cmp (od_eqJ hgd hr (fun C (hC : C = T.oA_Board ∨ C = T.oA_CalmBoard) => hC.elim (fun h => by subst h; exact T.ec_Board) (fun h => by subst h; exact T.ec_CalmBoard)) (eq_subs T.sb_01 T.sb_10) (G_Board___eq__.mono (by decide)) T.b_Board___eq__) (de_ix xd_ix (de_name (pv 3)) (de_int) (fun _ _ => rfl)) (de_ix xd_ix (de_name (pv 2)) (de_int) (fun _ _ => rfl)) (nomark _)) (da_nil)))))))) (ds_cons (ds_if (dt_cmp (od_ne hr.units) (de_callB (cd_reprX hgd hr.units) (by rfl) T.m_repr (by decide +kernel) (da_cons (de_name (pv 5)) (da_nil))) (de_callB (cd_reprX hgd hr.units) (by rfl) T.m_repr (by decide +kernel) (da_cons (de_lst (da_cons (de_cmp (od_eq hr.units) (de_name (pv 0)) (de_name (pv 1)) (nomark _)) (da_cons (de_cmp (od_eq hr.units) (de_name (pv 0)) (de_name (pv 1)) (nomark _)) (da_cons (de_bl) (da_cons (de_bl) (da_nil)))))) (da_nil))) (nomark _)) (ds_one (ds_ret (de_bl))) (ds_nil)) (ds_one (ds_ret (de_and (de_cmp (od_eq hr.units) (de_lc (pe_lc (own := [("_law_one", 6)]) (g := tgT K (Tg.nm 6)) (tt := liftT K (wYes)) (te := lift K (wOp (eqJ (okBC T.oA_Board T.oA_CalmBoard) (gE_Board___eq__ (okBC T.oA_Board T.oA_CalmBoard))) (wOp ixD (wName 3) (wC (.int 0))) (wName 6))) rfl sc__law_pairs_right.nd (di_seq (de_name (pv 4))) (blkOk_by (own := [("_law_one", 6)]) (N := n__law_pairs_right) (sc := defScope s__law_pairs_right) (by decide +kernel)) (fun _ _ _ _ _ => pg_name (i := 6) sc__law_pairs_right.nd rfl (Or.inl rfl)) (fun _ _ _ _ _ => dts_nil) (fun _ _ _ _ _ => de_cmp (od_eqJ hgd hr (fun C (hC : C = T.oA_Board ∨ C = T.oA_CalmBoard) => hC.elim (fun h => by subst h; exact T.ec_Board) (fun h => by subst h; exact T.ec_CalmBoard)) (eq_subs T.sb_01 T.sb_10) (G_Board___eq__.mono (by decide)) T.b_Board___eq__) (de_ix xd_ix (de_name (pv 3)) (de_int) (fun _ _ => rfl)) (de_name (pv 6)) (nomark _)))) (de_lst (da_cons (de_bl) (da_cons (de_bl) (da_cons (de_bl) (da_nil))))) (nomark _)) (de_one (de_cmp (od_neJ hgd hr (fun C (hC : C = T.oA_Board ∨ C = T.oA_CalmBoard) => hC.elim (fun h => by subst h; exact T.ec_Board) (fun h => by subst h; exact T.ec_CalmBoard)) (eq_subs T.sb_01 T.sb_10) (G_Board___eq__.mono (by decide)) T.b_Board___eq__) (de_ix xd_ix (de_name (pv 3)) (de_int) (fun _ _ => rfl)) (de_ix xd_ix (de_name (pv 4)) (de_int) (fun _ _ => rfl)) (nomark _))))))))), fun ds M P h => (sem h).2⟩)
def spLaw (K : PySem.W.Frag) : Sp := fun vs H Q _ => ∃ (a : Addr) (ns : List Int), vs = [.ref a] ∧ SqL K H a (ns.map V.int) ∧ ∀ H', Q (.bl true) H'
theorem ok_law (T : Tx K mg) (G__law_ring : FnG P w K mg base CX0 2 T.f__law_ring T.fd__law_ring ["_law_deck_here", "_law_most"] (spD K gRingE)) (G__law_errors_right : FnG P w K mg base CX0 4 T.f__law_errors_right T.fd__law_errors_right ["_law_value"] (spD K g__law_errors_right)) (G__law_draw : FnG P w K mg base CX0 1 T.f__law_draw T.fd__law_draw ["_law_deck_here", "_law_many"] (spD K gDraw)) (G__law_pairs_right : FnG P w K mg base CX0 12 T.f__law_pairs_right T.fd__law_pairs_right ["_law_ring_here", "_law_other"] (spD K g__law_pairs_right)) (G__law_edit : FnG P w K mg base CX0 2 T.f__law_edit T.fd__law_edit ["_law_deck_here", "_law_ring_here"] (spD K gEditE)) (G__law_new : FnG P w K mg base CX0 12 T.f__law_new T.fd__law_new ["_law_ring_here", "_law_is_calm"] (spD K (g__law_new (okBC T.oA_Board T.oA_CalmBoard) (fun C => if C = T.oA_CalmBoard then (gC_CalmBoard_keep T.oA_CalmBoard) else (gZ_Board_keep (okBC T.oA_Board T.oA_CalmBoard))) T.oA_Board T.oA_CalmBoard))) (G__law_do : FnG P w K mg base (L2.CX P w) 12 T.f__law_do T.fd__law_do ["_law_table", "_law_edit_here"] (spX K T.ct (gDoZ (okBC T.oA_Board T.oA_CalmBoard) (fun C => if C = T.oA_CalmBoard then (gC_CalmBoard_keep T.oA_CalmBoard) else (gZ_Board_keep (okBC T.oA_Board T.oA_CalmBoard)))))) (G__law_after : FnG P w K mg base CX0 1 T.f__law_after T.fd__law_after ["_law_ring_here", "_law_edit_here"] (spD K gAfterE)) (G_Board___eq__ : FnG P w K mg base CX0 1 T.f_Board___eq__ T.fd_Board___eq__ ["self", "other"] (spD K (gE_Board___eq__ (okBC T.oA_Board T.oA_CalmBoard)))) (G_Board_ring : FnG P w K mg base (L2.CX P w) 3 T.f_Board_ring T.fd_Board_ring ["self", "version"] (spX K T.ct (gZ_Board_ring (okBC T.oA_Board T.oA_CalmBoard)))) (G_Board___len__ : FnG P w K mg base CX0 1 T.f_Board___len__ T.fd_Board___len__ ["self"] (spD K (gZ_Board___len__ (okBC T.oA_Board T.oA_CalmBoard)))) (G_Board_undo : FnG P w K mg base (L2.CX P w) 2 T.f_Board_undo T.fd_Board_undo ["self"] (spX K T.ct (gZ_Board_undo (okBC T.oA_Board T.oA_CalmBoard))))
    (sem : ∀ {d l : Addr} {M : Mem}, DeckM M d l 0 → (w_law (okBC T.oA_Board T.oA_CalmBoard) (fun C => if C = T.oA_CalmBoard then (gC_CalmBoard_keep T.oA_CalmBoard) else (gZ_Board_keep (okBC T.oA_Board T.oA_CalmBoard))) T.oA_Board T.oA_CalmBoard) lawEnds ((List.replicate 13 none).set 1 (some (.obj (.ref d)))) M) :
    FnG P w K mg base CX0 13 T.f_law T.fd_law ["_law_script"] (spLaw K) := by
  have GK : FnOk P w K mg base CX0 12 T.f__law_deck T.fd__law_deck ["_law_script"] (spDeck K) := ok_deck (k := 11) T.F__law_deck T.m_abs
  refine okG (k := 12) T.F_law sc_law (fun vs H Q E h => ?_) (fun cdv A outer s H vs Q E hgd hr h => ?_)
  · obtain ⟨a, ns, rfl, _⟩ := h
    rfl
  · obtain ⟨a, ns, rfl, hS, q⟩ := h
    have hD : DSs (cxOf CX0 P w K mg base n_law "law" (defScope s_law) T.f_law cdv A outer s H E).nox VF (defBody s_law).tail (w_law (okBC T.oA_Board T.oA_CalmBoard) (fun C => if C = T.oA_CalmBoard then (gC_CalmBoard_keep T.oA_CalmBoard) else (gZ_Board_keep (okBC T.oA_Board T.oA_CalmBoard))) T.oA_Board T.oA_CalmBoard) := ds_cons (ds_if (dt_not (dt_val (de_call hgd (G__law_errors_right.mono (by decide)) hr (by rfl) T.g__law_errors_right T.F__law_errors_right.kp T.b__law_errors_right pass0 (da_cons (de_ix xd_ix (de_lst (da_cons (de_non) (da_cons (de_int) (da_cons (de_bl) (da_cons (de_str) (da_cons (de_tup (da_cons (de_int) (da_cons (de_str) (da_nil)))) (da_cons (de_lst (da_nil)) (da_cons (de_dct0 pe_dnewK) (da_cons (de_un ud_neg (de_int)) (da_nil)))))))))) (de_call hgd (G__law_draw.mono (by decide)) hr (by rfl) T.g__law_draw T.F__law_draw.kp T.b__law_draw pass0 (da_cons (de_name (pv 1)) (da_cons (de_int) (da_nil)))) (fun _ _ => rfl)) (da_nil))))) (ds_one (ds_ret (de_bl))) (ds_nil)) (ds_cons (ds_set (ps_set (i := 2) sc_law.nd rfl (.inl rfl) (de_call hgd (G__law_ring.mono (by decide)) hr (by rfl) T.g__law_ring T.F__law_ring.kp T.b__law_ring pass0 (da_cons (de_name (pv 1)) (da_cons (de_int) (da_nil)))))) (ds_cons (ds_set (ps_set (i := 3) sc_law.nd rfl (.inl rfl) (de_ix xd_ix (de_lst (da_cons (de_name (pv 2)) (da_cons (de_op od_add (de_slice (de_name (pv 2)) (do_some (de_int)) (do_none)) (de_slice (de_name (pv 2)) (do_none) (do_some (de_int)))) (da_cons (de_op od_add (de_name (pv 2)) (de_slice (de_name (pv 2)) (do_none) (do_some (de_int)))) (da_nil))))) (de_call hgd (G__law_draw.mono (by decide)) hr (by rfl) T.g__law_draw T.F__law_draw.kp T.b__law_draw pass0 (da_cons (de_name (pv 1)) (da_cons (de_int) (da_nil)))) (fun _ _ => rfl)))) (ds_cons (ds_if (dt_not (dt_val (de_call hgd (G__law_pairs_right.mono (by decide)) hr (by rfl) T.g__law_pairs_right T.F__law_pairs_right.kp T.b__law_pairs_right pass0 (da_cons (de_name (pv 2)) (da_cons (de_name (pv 3)) (da_nil)))))) (ds_one (ds_ret (de_bl))) (ds_nil)) (ds_cons (ds_set (ps_set (i := 4) sc_law.nd rfl (.inl rfl) (de_cmp (od_eq hr.units) (de_call hgd (G__law_draw.mono (by decide)) hr (by rfl) T.g__law_draw T.F__law_draw.kp T.b__law_draw pass0 (da_cons (de_name (pv 1)) (da_cons (de_int) (da_nil)))) (de_int) (nomark _)))) (ds_cons (ds_par (ps_par (i := 5) (j := 6) (by rfl) sc_law.nd rfl rfl (by decide) rfl rfl (da_cons (de_lst (da_cons (de_call hgd (G__law_new.mono (by decide)) hr (by rfl) T.g__law_new T.F__law_new.kp T.b__law_new pass0 (da_cons (de_name (pv 2)) (da_cons (de_name (pv 4)) (da_nil)))) (da_cons (de_call hgd (G__law_new.mono (by decide)) hr (by rfl) T.g__law_new T.F__law_new.kp T.b__law_new pass0 (da_cons (de_name (pv 3)) (da_cons (de_name (pv 4)) (da_nil)))) (da_nil)))) (da_cons (de_own (deo_lst (da_cons (de_name (pv 2)) (da_cons (de_name (pv 3)) (da_nil))))) (da_nil))) (by rfl))) (ds_cons (ds_for (ps_for (g := tgT K (Tg.nm 7)) PassesOwn.never rfl (di_range1 (by rfl) T.m_range (da_cons (de_call hgd (G__law_draw.mono (by decide)) hr (by rfl) T.g__law_draw T.F__law_draw.kp T.b__law_draw pass0 (da_cons (de_name (pv 1)) (da_cons (de_int) (da_nil)))) (da_nil))) (pg_name (i := 7) sc_law.nd rfl (.inl rfl)) (ds_cons (ds_set (ps_set (i := 8) sc_law.nd rfl (.inl rfl) (de_call hgd (G__law_draw.mono (by decide)) hr (by rfl) T.g__law_draw T.F__law_draw.kp T.b__law_draw pass0 (da_cons (de_name (pv 1)) (da_cons (de_int) (da_nil)))))) (ds_cons (ds_set (ps_set (i := 9) sc_law.nd rfl (.inl rfl) (de_call hgd (G__law_edit.mono (by decide)) hr (by rfl) T.g__law_edit T.F__law_edit.kp T.b__law_edit pass0 (da_cons (de_name (pv 1)) (da_cons (de_ix xd_ix (de_name (pv 6)) (de_name (pv 8)) (fun _ _ => rfl)) (da_nil)))))) (ds_cons (ds_if (dt_cmp (od_ne hr.units) (de_callN hgd (G__law_do.mono (by decide)) hr (by rfl) T.g__law_do T.F__law_do.kp T.b__law_do (da_cons (de_ix xd_ix (de_name (pv 5)) (de_name (pv 8)) (fun _ _ => rfl)) (da_cons (de_name (pv 9)) (da_nil)))) (de_lenI (pe_callB (call_lenI hgd hr (fun C (hC : C = T.oA_Board ∨ C = T.oA_CalmBoard) => hC.elim (fun h => by subst h; exact ⟨_, _, T.mt_Board___len__.at_, T.mt_Board___len__.fn, G_Board___len__.mono (by decide), T.b_Board___len__⟩) (fun h => by subst h; exact ⟨_, _, T.mi_CalmBoard_Board___len__.at_, T.mi_CalmBoard_Board___len__.fn, G_Board___len__.mono (by decide), T.b_Board___len__⟩))) (by rfl) T.m_len (by decide +kernel) (da_cons (de_ix xd_ix (de_name (pv 5)) (de_name (pv 8)) (fun _ _ => rfl)) da_nil))) (nomark _)) (ds_one (ds_ret (de_bl))) (ds_nil)) (ds_one (ds_if (dt_cmp od_gt (de_call hgd (G__law_draw.mono (by decide)) hr (by rfl) T.g__law_draw T.F__law_draw.kp T.b__law_draw pass0 (da_cons (de_name (pv 1)) (da_cons (de_int) (da_nil)))) (de_int) (nomark _)) (ds_one (ds_store (ps_asg (de_call hgd (G__law_after.mono (by decide)) hr (by rfl) T.g__law_after T.F__law_after.kp T.b__law_after pass0 (da_cons (de_ix xd_ix (de_name (pv 6)) (de_name (pv 8)) (fun _ _ => rfl)) (da_cons (de_name (pv 9)) (da_nil)))) (pg_sub (de_name (pv 6)) (de_name (pv 8)) set_list)))) (ds_one (ds_if (dt_cmp (od_ne hr.units) (de_met0N GRel.all (pe_met0 hgd (de_ix xd_ix (de_name (pv 5)) (de_name (pv 8)) (fun _ _ => rfl)) (fun C (hC : C = T.oA_Board ∨ C = T.oA_CalmBoard) => hC.elim (fun h => by subst h; exact ⟨T.cl_Board, ⟨_, _, _, _, T.mt_Board_undo, G_Board_undo.mono (by decide), MBn.all T.b_Board_undo⟩⟩) (fun h => by subst h; exact ⟨T.cl_CalmBoard, ⟨_, _, _, _, T.mi_CalmBoard_Board_undo, G_Board_undo.mono (by decide), MBn.all T.b_Board_undo⟩⟩)) (errX takes0) hr)) (de_lenI (pe_callB (call_lenI hgd hr (fun C (hC : C = T.oA_Board ∨ C = T.oA_CalmBoard) => hC.elim (fun h => by subst h; exact ⟨_, _, T.mt_Board___len__.at_, T.mt_Board___len__.fn, G_Board___len__.mono (by decide), T.b_Board___len__⟩) (fun h => by subst h; exact ⟨_, _, T.mi_CalmBoard_Board___len__.at_, T.mi_CalmBoard_Board___len__.fn, G_Board___len__.mono (by decide), T.b_Board___len__⟩))) (by rfl) T.m_len (by decide +kernel) (da_cons (de_ix xd_ix (de_name (pv 5)) (de_name (pv 8)) (fun _ _ => rfl)) da_nil))) (nomark _)) (ds_one (ds_ret (de_bl))) (ds_nil)))))))))) (ds_cons (ds_set (ps_set (i := 10) sc_law.nd rfl (.inl rfl) (de_cmp (od_eq hr.units) (de_ix xd_ix (de_name (pv 6)) (de_int) (fun _ _ => rfl)) (de_ix xd_ix (de_name (pv 6)) (de_int) (fun _ _ => rfl)) (nomark _)))) (ds_cons (ds_set (ps_set (i := 11) sc_law.nd rfl (.inl rfl) (de_lst (da_cons (de_cmp (od_eqJ hgd hr (fun C (hC : C = T.oA_Board ∨ C = T.oA_CalmBoard) => hC.elim (fun h => by subst h; exact T.ec_Board) (fun h => by subst h; exact T.ec_CalmBoard)) (eq_subs T.sb_01 T.sb_10) (G_Board___eq__.mono (by decide)) T.b_Board___eq__) (de_ix xd_ix (de_name (pv 5)) (de_int) (fun _ _ => rfl)) (de_ix xd_ix (de_name (pv 5)) (de_int) (fun _ _ => rfl)) (nomark _)) (da_cons (de_cmp (od_neJ hgd hr (fun C (hC : C = T.oA_Board ∨ C = T.oA_CalmBoard) => hC.elim (fun h => by subst h; exact T.ec_Board) (fun h => by subst h; exact T.ec_CalmBoard)) (eq_subs T.sb_01 T.sb_10) (G_Board___eq__.mono (by decide)) T.b_Board___eq__) (de_ix xd_ix (de_name (pv 5)) (de_int) (fun _ _ => rfl)) (de_ix xd_ix (de_name (pv 5)) (de_int) (fun _ _ => rfl)) (nomark _)) (da_cons (de_met0N (GRel.dfl fun _ _ => .cons (.non) (.nil)) (pe_met0 hgd (de_ix xd_ix (de_name (pv 5)) (de_int) (fun _ _ => rfl)) (fun C (hC : C = T.oA_Board ∨ C = T.oA_CalmBoard) => hC.elim (fun h => by subst h; exact ⟨T.cl_Board, T.bk_Board_ring_0.elim fun g hg => ⟨_, _, _, g, T.mt_Board_ring, G_Board_ring.mono (by decide), hg⟩⟩) (fun h => by subst h; exact ⟨T.cl_CalmBoard, T.bk_Board_ring_0.elim fun g hg => ⟨_, _, _, g, T.mi_CalmBoard_Board_ring, G_Board_ring.mono (by decide), hg⟩⟩)) (errX takes0) hr)) (da_cons (de_met0N (GRel.dfl fun _ _ => .cons (.non) (.nil)) (pe_met0 hgd (de_ix xd_ix (de_name (pv 5)) (de_int) (fun _ _ => rfl)) (fun C (hC : C = T.oA_Board ∨ C = T.oA_CalmBoard) => hC.elim (fun h => by subst h; exact ⟨T.cl_Board, T.bk_Board_ring_0.elim fun g hg => ⟨_, _, _, g, T.mt_Board_ring, G_Board_ring.mono (by decide), hg⟩⟩) (fun h => by subst h; exact ⟨T.cl_CalmBoard, T.bk_Board_ring_0.elim fun g hg => ⟨_, _, _, g, T.mi_CalmBoard_Board_ring, G_Board_ring.mono (by decide), hg⟩⟩)) (errX takes0) hr)) (da_nil)))))))) (ds_cons (ds_if (dt_cmp (od_ne hr.units) (de_callB (cd_reprX hgd hr.units) (by rfl) T.m_repr (by decide +kernel) (da_cons (de_name (pv 11)) (da_nil))) (de_callB (cd_reprX hgd hr.units) (by rfl) T.m_repr (by decide +kernel) (da_cons (de_lst (da_cons (de_name (pv 10)) (da_cons (de_not (de_name (pv 10))) (da_cons (de_ix xd_ix (de_name (pv 6)) (de_int) (fun _ _ => rfl)) (da_cons (de_ix xd_ix (de_name (pv 6)) (de_int) (fun _ _ => rfl)) (da_nil)))))) (da_nil))) (nomark _)) (ds_one (ds_ret (de_bl))) (ds_nil)) (ds_cons (ds_set (ps_set (i := 12) sc_law.nd rfl (.inl rfl) (de_ix xd_ix (de_lst (da_cons (de_non) (da_cons (de_int) (da_cons (de_str) (da_cons (de_ix xd_ix (de_name (pv 6)) (de_int) (fun _ _ => rfl)) (da_cons (de_callTy cd_list (by rfl) T.m_list (by decide +kernel) (da_cons (de_ix xd_ix (de_name (pv 6)) (de_int) (fun _ _ => rfl)) (da_nil))) (da_cons (de_tup (da_nil)) (da_cons (de_dct0 pe_dnewK) (da_nil))))))))) (de_call hgd (G__law_draw.mono (by decide)) hr (by rfl) T.g__law_draw T.F__law_draw.kp T.b__law_draw pass0 (da_cons (de_name (pv 1)) (da_cons (de_int) (da_nil)))) (fun _ _ => rfl)))) (ds_one (ds_ret (de_and (de_cmp (od_eqJ hgd hr (fun C (hC : C = T.oA_Board ∨ C = T.oA_CalmBoard) => hC.elim (fun h => by subst h; exact T.ec_Board) (fun h => by subst h; exact T.ec_CalmBoard)) (eq_subs T.sb_01 T.sb_10) (G_Board___eq__.mono (by decide)) T.b_Board___eq__) (de_call hgd (G__law_new.mono (by decide)) hr (by rfl) T.g__law_new T.F__law_new.kp T.b__law_new pass0 (da_cons (de_ix xd_ix (de_name (pv 6)) (de_int) (fun _ _ => rfl)) (da_cons (de_name (pv 4)) (da_nil)))) (de_ix xd_ix (de_name (pv 5)) (de_int) (fun _ _ => rfl)) (nomark _)) (de_and (de_cmp (od_neJ hgd hr (fun C (hC : C = T.oA_Board ∨ C = T.oA_CalmBoard) => hC.elim (fun h => by subst h; exact T.ec_Board) (fun h => by subst h; exact T.ec_CalmBoard)) (eq_subs T.sb_01 T.sb_10) (G_Board___eq__.mono (by decide)) T.b_Board___eq__) (de_ix xd_ix (de_name (pv 5)) (de_int) (fun _ _ => rfl)) (de_name (pv 12)) (nomark _)) (de_one (de_not (de_cmp (od_eqJ hgd hr (fun C (hC : C = T.oA_Board ∨ C = T.oA_CalmBoard) => hC.elim (fun h => by subst h; exact T.ec_Board) (fun h => by subst h; exact T.ec_CalmBoard)) (eq_subs T.sb_01 T.sb_10) (G_Board___eq__.mono (by decide)) T.b_Board___eq__) (de_ix xd_ix (de_name (pv 5)) (de_int) (fun _ _ => rfl)) (de_name (pv 12)) (nomark _))))))))))))))))))
    refine ⟨_, pss_cons (ps_set (i := 1) sc_law.nd rfl (.inl rfl) (pe_call GK hr (by rfl) T.g__law_deck T.F__law_deck.kp T.b__law_deck .nil pass0 (pa_cons (pv 0) pa_nil))) hD, ?_⟩
    exact ⟨.ref a, rfl, a, ns, rfl, hS, fun H1 d l sm nd nl DK => law_go rfl rfl DK (fun M h => sem h) q⟩
end
end R61
set_option Elab.async false
set_option linter.all false
set_option maxRecDepth 100000
namespace R61
open PySem PySem.Spec PyProof.Rows L2 RS
theorem hb_LastPlace : ∀ j < 18, bs_LastPlace[j]? = some (decide ((0 : Int) = (j : Nat))) := by decide
theorem hb_OutOfRange : ∀ j < 18, bs_OutOfRange[j]? = some (decide ((1 : Int) = (j : Nat))) := by decide
theorem hb_TooManyEdits : ∀ j < 18, bs_TooManyEdits[j]? = some (decide ((2 : Int) = (j : Nat))) := by decide
theorem hb_NothingToUndo : ∀ j < 18, bs_NothingToUndo[j]? = some (decide ((3 : Int) = (j : Nat))) := by decide
theorem hb_BadEdits : ∀ j < 18, bs_BadEdits[j]? = some (decide ((4 : Int) = (j : Nat))) := by decide
theorem hb_NotDistinct : ∀ j < 18, bs_NotDistinct[j]? = some (decide ((5 : Int) = (j : Nat))) := by decide
theorem hb_TooLong : ∀ j < 18, bs_TooLong[j]? = some (decide ((6 : Int) = (j : Nat))) := by decide
theorem hb_BadRing : ∀ j < 18, bs_BadRing[j]? = some (decide ((7 : Int) = (j : Nat))) := by decide
theorem hb_BadHeight : ∀ j < 18, bs_BadHeight[j]? = some (decide ((8 : Int) = (j : Nat))) := by decide
theorem hb_BadTolerance : ∀ j < 18, bs_BadTolerance[j]? = some (decide ((9 : Int) = (j : Nat))) := by decide
theorem hb_BadTurns : ∀ j < 18, bs_BadTurns[j]? = some (decide ((10 : Int) = (j : Nat))) := by decide
theorem hb_Restless : ∀ j < 18, bs_Restless[j]? = some (decide ((11 : Int) = (j : Nat))) := by decide
theorem hb_BadEdit : ∀ j < 18, bs_BadEdit[j]? = some (decide ((12 : Int) = (j : Nat))) := by decide
theorem hb_Rejected : ∀ j < 18, bs_Rejected[j]? = some (decide ((13 : Int) = (j : Nat))) := by decide
theorem hb_BadText : ∀ j < 18, bs_BadText[j]? = some (decide ((14 : Int) = (j : Nat))) := by decide
theorem hb_NoIndex : ∀ j < 18, bs_NoIndex[j]? = some (decide ((15 : Int) = (j : Nat))) := by decide
theorem hb_NoPlace : ∀ j < 18, bs_NoPlace[j]? = some (decide ((16 : Int) = (j : Nat))) := by decide
theorem hb_NoVersion : ∀ j < 18, bs_NoVersion[j]? = some (decide ((17 : Int) = (j : Nat))) := by decide
theorem hb_RingError : ∀ j < 18, bs_RingError[j]? = some (decide (((j : Nat) : Int) < 15)) := by decide
theorem hb_ValueError : ∀ j < 18, bs_ValueError[j]? = some (decide (((j : Nat) : Int) < 15)) := by decide
theorem hb_LookupError : ∀ j < 18, bs_LookupError[j]? = some (decide ((14 : Int) < (j : Nat))) := by decide
theorem few_24 {hs : List Int} (ok : RingOk hs) {t : Int} (ht : 0 ≤ t) : leastTurns hs t ≤ (hs.length : Nat) := by
  have h := turns_mono hs ht
  rw [least_turns0] at h
  have := turns_len hs
  omega
theorem few24 {hs : List Int} (ok : RingOk hs) {t : Int} (ht : 0 ≤ t) : leastTurns hs t ≤ 24 := by
  have := few_24 ok ht
  have := ok.2.1
  omega
section
variable {okC : Addr → Prop} {cB cC : Addr} {P : DK} {ds : List D} {M : Mem}
set_option maxHeartbeats 0 in
theorem semE_Board___eq__ (h : gE_Board___eq__ okC ds M P) : ds.length = 2 ∧ wE_Board___eq__ okC cB (ends P) (ds.map some ++ List.replicate (2 - ds.length) none) M := by
  rcases h with h | ⟨C, a, F, R, eds, l, d, rfl, b, oc, hk, q⟩
  · obtain ⟨C1, a1, F1, R1, e1, l1, C2, a2, F2, R2, e2, l2, h1, h2, rfl, b1, b2, oc1, oc2, v1, v2, q⟩ := h
    obtain ⟨dx1, S1, T1, rfl, m1, m2, m3, ne1⟩ := id b1.ex
    obtain ⟨dx2, S2, T2, rfl, k1, k2, k3, ne2⟩ := id b2.ex
    refine ⟨rfl, rfl, .inl ⟨_, _, ⟨a2, dx2, rfl, k1, oc2⟩, ?_⟩⟩
    refine ⟨_, _, _, ⟨a1, dx1, rfl, m1, oc1⟩, zF_states _ _ _, _, _, m2, atI_lastD (last_ring v1), ?_⟩
    refine ⟨_, _, _, ⟨a2, dx2, rfl, k1, oc2⟩, zF_states _ _ _, _, _, k2, atI_lastD (last_ring v2), ?_⟩
    refine ⟨fit_ti h1, fit_ti h2, ?_⟩
    rw [show PyData.eqv (ringD h1).py (ringD h2).py = decide (h1 = h2) from eqvD_ti h1 h2]
    by_cases e : h1 = h2
    · rw [decide_eq_true e]
      refine ⟨_, _, _, ⟨a1, dx1, rfl, m1, oc1⟩, zF_limits _ _ _, _, _, _, ⟨a2, dx2, rfl, k1, oc2⟩, zF_limits _ _ _, eqD_lim ?_⟩
      unfold eqZ at q
      rw [decide_eq_true e, Bool.true_and] at q
      exact q
    · rw [decide_eq_false e]
      unfold eqZ at q
      rw [decide_eq_false e, Bool.false_and] at q
      exact q
  · exact ⟨rfl, rfl, .inr ⟨hk, q⟩⟩
set_option maxHeartbeats 0 in
theorem sem__law_new (hne : cB ≠ cC) (h : g__law_new (okBC cB cC) (fun C => if C = cC then gC_CalmBoard_keep cC else gZ_Board_keep (okBC cB cC)) cB cC ds M P) : ds.length = 2 ∧ w__law_new (okBC cB cC) cB cC (ends P) (ds.map some ++ List.replicate (2 - ds.length) none) M := by
  obtain ⟨hs, b, rfl, ok, q⟩ := h
  cases b with
  | true =>
    refine ⟨rfl, fun a dx na _ _ => mkC na ok (by decide) (by decide) (few24 ok (Int.le_refl _)) fun F M' b' up => ?_⟩
    exact q a F M' ⟨b', .inr rfl, keepOk_calm⟩ up
  | false =>
    refine ⟨rfl, fun a dx na _ _ => mkZ (.inl rfl) na ok fun F M' b' up => ?_⟩
    exact q a F M' ⟨b', .inl rfl, keepOk_pair hne (.inl rfl)⟩ up
set_option maxHeartbeats 0 in
theorem sem__law_flags {exs : List Addr} (h : g__law_flags exs ds M P) : ds.length = 1 ∧ w__law_flags exs (ends P) (ds.map some ++ List.replicate (2 - ds.length) none) M := by
  obtain ⟨a, d, j, c, rfl, hj, hc, m, xd, q⟩ := h
  refine ⟨rfl, ?_⟩
  refine ⟨a, c, d, j, _, rfl, hc, hb_LastPlace j hj, m, xd, a, c, d, j, _, rfl, hc, hb_OutOfRange j hj, m, xd, a, c, d, j, _, rfl, hc, hb_TooManyEdits j hj, m, xd, small_line (by show 3 ≤ 1000000; decide), ?_⟩
  refine ⟨a, c, d, j, _, rfl, hc, hb_NothingToUndo j hj, m, xd, a, c, d, j, _, rfl, hc, hb_BadEdits j hj, m, xd, a, c, d, j, _, rfl, hc, hb_NotDistinct j hj, m, xd, small_line (by show 3 ≤ 1000000; decide), small_line (by show 6 ≤ 1000000; decide), ?_⟩
  refine ⟨a, c, d, j, _, rfl, hc, hb_TooLong j hj, m, xd, a, c, d, j, _, rfl, hc, hb_BadRing j hj, m, xd, a, c, d, j, _, rfl, hc, hb_BadHeight j hj, m, xd, small_line (by show 3 ≤ 1000000; decide), small_line (by show 9 ≤ 1000000; decide), ?_⟩
  refine ⟨a, c, d, j, _, rfl, hc, hb_BadTolerance j hj, m, xd, a, c, d, j, _, rfl, hc, hb_BadTurns j hj, m, xd, a, c, d, j, _, rfl, hc, hb_Restless j hj, m, xd, small_line (by show 3 ≤ 1000000; decide), small_line (by show 12 ≤ 1000000; decide), ?_⟩
  refine ⟨a, c, d, j, _, rfl, hc, hb_BadEdit j hj, m, xd, a, c, d, j, _, rfl, hc, hb_Rejected j hj, m, xd, a, c, d, j, _, rfl, hc, hb_BadText j hj, m, xd, a, c, d, j, _, rfl, hc, hb_NoIndex j hj, m, xd, small_line (by show 4 ≤ 1000000; decide), small_line (by show 16 ≤ 1000000; decide), ?_⟩
  refine ⟨a, c, d, j, _, rfl, hc, hb_NoPlace j hj, m, xd, a, c, d, j, _, rfl, hc, hb_NoVersion j hj, m, xd, small_line (by show 2 ≤ 1000000; decide), small_line (by show 18 ≤ 1000000; decide), ?_⟩
  exact q
end
section
variable {okC : Addr → Prop} {M : Mem} {P : DK} {C1 C2 a1 a2 : Addr} {F1 F2 : List Addr} {R1 R2 : List (List Int)} {e1 e2 : List D} {l1 l2 : Option (Int × Int)} {h1 h2 : List Int}
theorem eqZ_comm (h1 h2 : List Int) (l1 l2 : Option (Int × Int)) : eqZ h2 h1 l2 l1 = eqZ h1 h2 l1 l2 := by
  unfold eqZ
  have d1 : decide (h2 = h1) = decide (h1 = h2) := decide_eq_decide.mpr eq_comm
  have d2 : decide (l2 = l1) = decide (l1 = l2) := decide_eq_decide.mpr eq_comm
  rw [d1, d2]
theorem eq_bds (b1 : BoardF C1 M a1 F1 R1 e1 l1) (b2 : BoardF C2 M a2 F2 R2 e2 l2) (oc1 : okC C1) (oc2 : okC C2) (v1 : R1.getLast? = some h1) (v2 : R2.getLast? = some h2) (q : P (.bl (eqZ h1 h2 l1 l2)) M) : eqJ okC (gE_Board___eq__ okC) (.obj (.ref a1)) (.obj (.ref a2)) M P := by
  obtain ⟨f1, j1, _⟩ := b1.ins oc1 (m := "x") (by decide)
  obtain ⟨f2, j2, _⟩ := b2.ins oc2 (m := "x") (by decide)
  exact .inr (.inl ⟨C1, f1, C2, f2, j1, j2, .inl ⟨C1, a1, F1, R1, e1, l1, C2, a2, F2, R2, e2, l2, h1, h2, rfl, b1, b2, oc1, oc2, v1, v2, _, rfl, q⟩, .inl ⟨C2, a2, F2, R2, e2, l2, C1, a1, F1, R1, e1, l1, h2, h1, rfl, b2, b1, oc2, oc1, v2, v1, _, rfl, by rw [eqZ_comm]; exact q⟩⟩)
theorem ne_bds (b1 : BoardF C1 M a1 F1 R1 e1 l1) (b2 : BoardF C2 M a2 F2 R2 e2 l2) (oc1 : okC C1) (oc2 : okC C2) (v1 : R1.getLast? = some h1) (v2 : R2.getLast? = some h2) (q : P (.bl (!eqZ h1 h2 l1 l2)) M) : neJ okC (gE_Board___eq__ okC) (.obj (.ref a1)) (.obj (.ref a2)) M P := by
  obtain ⟨f1, j1, _⟩ := b1.ins oc1 (m := "x") (by decide)
  obtain ⟨f2, j2, _⟩ := b2.ins oc2 (m := "x") (by decide)
  exact .inr (.inl ⟨C1, f1, C2, f2, j1, j2, .inl ⟨C1, a1, F1, R1, e1, l1, C2, a2, F2, R2, e2, l2, h1, h2, rfl, b1, b2, oc1, oc2, v1, v2, _, rfl, q⟩, .inl ⟨C2, a2, F2, R2, e2, l2, C1, a1, F1, R1, e1, l1, h2, h1, rfl, b2, b1, oc2, oc1, v2, v1, _, rfl, by rw [eqZ_comm]; exact q⟩⟩)
theorem eq_odd {d : D} (b1 : BoardF C1 M a1 F1 R1 e1 l1) (oc1 : okC C1) (hk : d.known = true) (q : P (.bl false) M) : eqJ okC (gE_Board___eq__ okC) (.obj (.ref a1)) d M P := by
  obtain ⟨f1, j1, _⟩ := b1.ins oc1 (m := "x") (by decide)
  exact .inl ⟨C1, f1, j1, hk, .inr ⟨C1, a1, F1, R1, e1, l1, d, rfl, b1, oc1, hk, _, rfl, q⟩⟩
theorem ne_odd_ {d : D} (b1 : BoardF C1 M a1 F1 R1 e1 l1) (oc1 : okC C1) (hk : d.known = true) (q : P (.bl true) M) : neJ okC (gE_Board___eq__ okC) (.obj (.ref a1)) d M P := by
  obtain ⟨f1, j1, _⟩ := b1.ins oc1 (m := "x") (by decide)
  exact .inl ⟨C1, f1, j1, hk, .inr ⟨C1, a1, F1, R1, e1, l1, d, rfl, b1, oc1, hk, _, rfl, q⟩⟩
end
end R61
set_option Elab.async false
set_option linter.all false
set_option maxRecDepth 100000
namespace R61
open PySem PySem.Spec PyProof.Rows L2 RS
theorem eqZ_same (h1 h2 : List Int) (l : Option (Int × Int)) : eqZ h1 h2 l l = decide (h1 = h2) := by
  unfold eqZ
  rw [decide_eq_true (rfl : l = l), Bool.and_true]
theorem eqZ_ne {h1 h2 : List Int} {l1 l2 : Option (Int × Int)} (h : l1 ≠ l2) : eqZ h1 h2 l1 l2 = false := by
  unfold eqZ
  rw [decide_eq_false h, Bool.and_false]
theorem fine_bls {bs : List Bool} (h : bs.length ≤ 10) : (D.lst (bs.map .bl)).fineD := by
  have hs : D.sizes (bs.map .bl) = bs.length := by
    clear h
    induction bs with
    | nil => rfl
    | cons b bs ih => simp only [List.map_cons, D.sizes, D.size, ih, List.length_cons]; omega
  refine (Val.lst (S := 10) (k := 1) (fun d hd => ?_) (by omega) (fun d hd => ?_)).fine (by decide) (by decide)
  · obtain ⟨b, _, rfl⟩ := List.mem_map.mp hd
    simp only [Clm]
  · obtain ⟨b, _, rfl⟩ := List.mem_map.mp hd
    simp only [D.deep]
    decide
theorem up_sub {M M' : Mem} {F : List Addr} (u : ∀ b o, M b = some o → M' b = some o ∧ b ∉ F) : RS.Sub M M' := fun x o e => (u x o e).1
section
variable {cB cC : Addr} {P : DK} {ds : List D} {M : Mem}
set_option maxHeartbeats 0 in
theorem sem__law_pairs_right (hne : cB ≠ cC) (h : g__law_pairs_right ds M P) : ds.length = 2 ∧ w__law_pairs_right (okBC cB cC) cB cC (ends P) (ds.map some ++ List.replicate (7 - ds.length) none) M := by
  obtain ⟨hs, hs2, rfl, ok, ok2, l1, l2, q⟩ := h
  have f1 := few24 ok (t := 3) (by decide)
  have f2 := few24 ok2 (t := 3) (by decide)
  have f3 := few24 ok (t := 2) (by decide)
  have f4 := few_24 ok (t := 3) (by decide)
  refine ⟨rfl, fun p0 x0 np0 _ _ => mkZ (.inl rfl) np0 ok fun F0 M1 b0 u0 => ?_⟩
  refine fun p1 x1 np1 _ _ => mkZ (.inl rfl) np1 ok2 fun F1 M2 b1 u1 => ⟨small_line (by show 2 ≤ 1000000; decide), ?_⟩
  refine fun c0 y0 nc0 _ _ => mkC nc0 ok (by decide) (by decide) f1 fun G0 M3 d0 v0 => ?_
  refine fun c1 y1 nc1 _ _ => mkC nc1 ok2 (by decide) (by decide) f2 fun G1 M4 d1 v1 => ⟨small_line (by show 2 ≤ 1000000; decide), small_line (by show 2 ≤ 1000000; decide), _, rfl, ?_⟩
  refine fun m0 z0 nm0 _ _ => mkC nm0 ok (by decide) (by decide) f3 fun H0 M5 e0 w0 => ?_
  refine fun m1 z1 nm1 _ _ => mkC nm1 ok (by decide) (by decide) (by omega) fun H1 M6 e1 w1 => ?_
  refine fun m2 z2 nm2 _ _ => mkC nm2 ok (by decide) (by decide) f1 fun H2 M7 e2 w2 => ⟨small_line (by show 3 ≤ 1000000; decide), ?_⟩
  have s01 := up_sub u0
  have s12 := up_sub u1
  have s23 := up_sub v0
  have s34 := up_sub v1
  have s45 := up_sub w0
  have s56 := up_sub w1
  have s67 := up_sub w2
  have s57 := s56.trans s67
  have s47 := s45.trans s57
  have s37 := s34.trans s47
  have s27 := s23.trans s37
  have s17 := s12.trans s27
  have B0 := boardF_all b0 s17
  have B1 := boardF_all b1 s27
  have D0 := boardF_all d0 s37
  have D1 := boardF_all d1 s47
  have E0 := boardF_all e0 s57
  have E1 := boardF_all e1 s67
  have oB : okBC cB cC cB := .inl rfl
  have oC : okBC cB cC cC := .inr rfl
  refine ⟨_, rfl, _, rfl, eq_bds (h1 := hs) (h2 := hs2) B0 B1 oB oB rfl rfl ?_⟩
  rw [eqZ_same]
  refine ⟨_, rfl, _, rfl, eq_bds (h1 := hs) (h2 := hs2) D0 D1 oC oC rfl rfl ?_⟩
  rw [eqZ_same]
  refine ⟨_, rfl, _, rfl, eq_bds (h1 := hs) (h2 := hs) B0 D0 oB oC rfl rfl ?_⟩
  rw [eqZ_ne (by simp)]
  refine ⟨_, rfl, _, rfl, eq_bds (h1 := hs) (h2 := hs) D0 B0 oC oB rfl rfl ?_⟩
  rw [eqZ_ne (by simp)]
  have fb : (D.lst [.bl (decide (hs = hs2)), .bl (decide (hs = hs2)), .bl false, .bl false]).fineD := fine_bls (bs := [decide (hs = hs2), decide (hs = hs2), false, false]) (by show 4 ≤ 10; decide)
  have ev : PyData.eqv (ringD hs).py (ringD hs2).py = decide (hs = hs2) := eqvD_ti hs hs2
  refine ⟨small_line (by show 4 ≤ 1000000; decide), fb, fit_ti hs, fit_ti hs2, ?_⟩
  rw [ev]
  refine ⟨fit_ti hs, fit_ti hs2, ?_⟩
  rw [ev]
  refine ⟨small_line (by show 4 ≤ 1000000; decide), fb, ?_⟩
  refine ⟨_, rfl, ?_⟩
  rw [decide_eq_true rfl]
  refine ⟨by show 3 ≤ 1000000; decide, rfl, ?_⟩
  refine ⟨_, rfl, _, rfl, eq_bds (h1 := hs) (h2 := hs) D0 E0 oC oC rfl rfl ?_⟩
  rw [eqZ_ne (by simp)]
  refine ⟨_, rfl, _, rfl, eq_bds (h1 := hs) (h2 := hs) D0 E1 oC oC rfl rfl ?_⟩
  rw [eqZ_ne (by simp)]
  refine ⟨_, rfl, _, rfl, eq_bds (h1 := hs) (h2 := hs) D0 e2 oC oC rfl rfl ?_⟩
  rw [eqZ_same, decide_eq_true rfl]
  refine ⟨small_line (by show 3 ≤ 1000000; decide), ?_⟩
  refine eqD_self (d := .lst [.bl false, .bl false, .bl true]) (fit_txt trivial) ?_
  refine ⟨_, rfl, _, rfl, ne_bds (h1 := hs) (h2 := hs) D0 E0 oC oC rfl rfl ?_⟩
  rw [eqZ_ne (by simp)]
  exact q _ (s01.trans s17)
end
end R61
set_option Elab.async false
set_option linter.all false
set_option maxRecDepth 100000
namespace R61
open PySem PySem.Spec PyProof.Rows L2 RS
theorem exA_get {exs : List Addr} (hx : exs.length = 19) {j : Nat} (hj : j < 19) : exs[j]? = some (exA exs j) := by
  unfold exA
  rw [List.getD_eq_getElem?_getD, List.getElem?_eq_getElem (by omega)]
  rfl
theorem sub_new {M : Mem} {a : Addr} {o : MO} (n : M a = none) : RS.Sub M (updM M a o) := fun x u e => by
  have ne : x ≠ a := fun z => by rw [z, n] at e; cases e
  rw [updM_ne ne]
  exact e
/-- exceptions that are made, one of each class -/
structure ExMade (exs : List Addr) (M0 M : Mem) (xs : List D) : Prop where
  s : RS.Sub M0 M
  at_ : ∀ (i : Nat) (x : D), xs[i]? = some x → ∃ (a : Addr) (d : Option Addr) (c : Addr), x = .obj (.ref a) ∧ exs[i]? = some c ∧ M a = some (.raw (exv a (.ref c) d)) ∧ XdM M d
theorem xd_sub {M M' : Mem} (s : RS.Sub M M') {d : Option Addr} (h : XdM M d) : XdM M' d := by
  cases d with
  | none => trivial
  | some dd =>
    obtain ⟨fs, e⟩ := h
    exact ⟨fs, s _ _ e⟩
section
variable {exs : List Addr} {M0 M M' : Mem} {xs : List D} {a dx c : Addr}
theorem ExMade.nil : ExMade exs M M [] := ⟨RS.Sub.refl M, fun i x h => by simp at h⟩
theorem ExMade.sub (t : ExMade exs M0 M xs) (s : RS.Sub M M') : ExMade exs M0 M' xs := ⟨t.s.trans s, fun i x h => by
  obtain ⟨a, d, c, h1, h2, h3, h4⟩ := t.at_ i x h
  exact ⟨a, d, c, h1, h2, s _ _ h3, xd_sub s h4⟩⟩
theorem ExMade.snoc (t : ExMade exs M0 M xs) {d : Option Addr} (hc : exs[xs.length]? = some c) (m : M a = some (.raw (exv a (.ref c) d))) (x : XdM M d) : ExMade exs M0 M (xs ++ [.obj (.ref a)]) := ⟨t.s, fun i y h => by
  by_cases hi : i < xs.length
  · rw [List.getElem?_append_left hi] at h
    exact t.at_ i y h
  · rw [List.getElem?_append_right (by omega)] at h
    have e : i - xs.length = 0 := by
      cases hh : i - xs.length with
      | zero => rfl
      | succ k => rw [hh] at h; simp at h
    rw [e] at h
    have ei : i = xs.length := by omega
    subst ei
    cases h
    exact ⟨a, d, c, rfl, hc, m, x⟩⟩
theorem ExMade.add0 (t : ExMade exs M0 M xs) (hc : exs[xs.length]? = some c) (n : M a = none) : ExMade exs M0 (updM M a (.raw (exv a (.ref c) none))) (xs ++ [.obj (.ref a)]) :=
  (t.sub (sub_new n)).snoc (d := none) hc updM_same trivial
theorem ne1 {f : Str} {v : D} (n : updM M dx (.xd [(f, v)]) a = none) : dx ≠ a := fun z => by rw [← z, updM_same] at n; cases n
theorem ExMade.add1 {f : Str} {v : D} (t : ExMade exs M0 M xs) (hc : exs[xs.length]? = some c) (m : M dx = none) (n : updM M dx (.xd [(f, v)]) a = none) : ExMade exs M0 (updM (updM M dx (.xd [(f, v)])) a (.raw (exv a (.ref c) (some dx)))) (xs ++ [.obj (.ref a)]) :=
  ((t.sub (sub_new m)).sub (sub_new n)).snoc (d := some dx) hc updM_same ⟨[(f, v)], by rw [updM_ne (ne1 n)]; exact updM_same⟩
/-- a field of an exception that was just made -/
theorem fld_ok {C : Addr} {f : Str} {v : D} {Γ : DG} {P : DK} (h0 : Γ[0]? = some (some v)) (q : ∀ M', RS.Sub M M' → P v M') : wFldV C (wMk1V C f (wName 0)) f Γ M P := by
  simp only [wFldV, wMk1V, wName, h0]
  intro dx a m n
  refine ⟨a, dx, [(f, v)], v, rfl, updM_same, by rw [updM_ne (ne1 n)]; exact updM_same, by rw [List.lookup_cons_self], q _ fun x o e => sub_new n _ _ (sub_new m _ _ e)⟩
end
set_option maxHeartbeats 0 in
/-- each of the eighteen answers as its own class and as no other -/
theorem loop_ok {exs : List Addr} (hx : exs.length = 19) {Fe : DEnds} {xs : List D} {v : D} {M0 M : Mem} (t : ExMade exs M0 M xs) (hl : xs.length = 18)
    (nx : ∀ y2 y3 M', RS.Sub M M' → Fe.nx [some v, some (.lst xs), y2, y3, none, none, none] M') :
    wFor (wRng1 (wCons (wC (.int 18)) (wNil))) (Tg.nm 2) (w__law_errors_right_b0 exs) Fe [some v, some (.lst xs), none, none, none, none, none] M := by
  refine ⟨by decide, by decide, ?_⟩
  show forD _ _ _ (rngD 0 (18 : Int).toNat) _ _
  refine forD_ind (fun i Γ M' => ∃ (y2 y3 : Option D), Γ = [some v, some (.lst xs), y2, y3, none, none, none] ∧ M' = M) ?_ ?_ ⟨none, none, rfl, rfl⟩
  · rintro i x Γ M' hx' ⟨y2, y3, rfl, rfl⟩ nx2 hnx
    obtain ⟨hi, rfl⟩ := rngD_at hx'
    have hj : i < 18 := hi
    obtain ⟨y, hy⟩ : ∃ y, xs[i]? = some y := ⟨_, List.getElem?_eq_getElem (by omega)⟩
    obtain ⟨a, d, c, rfl, hc, m, xd⟩ := t.at_ i y hy
    have hat : atI xs ((i : Nat) : Int) = some (.obj (.ref a)) := atI_nat hy
    refine ⟨_, rfl, ?_⟩
    refine ⟨_, hat, a, c, d, i, _, rfl, hc, hb_RingError i hj, m, xd, _, hat, a, c, d, i, _, rfl, hc, hb_ValueError i hj, m, xd, _, hat, a, c, d, i, _, rfl, hc, hb_LookupError i hj, m, xd, small_line (by show 3 ≤ 1000000; decide), ?_⟩
    refine ⟨_, hat, a, d, i, c, rfl, hj, hc, m, xd, by decide, by decide, by show 18 ≤ 1000000; decide, rfl, ?_⟩
    refine lcO_map (fun x => match x with | .int z => .bl (decide (z = ((i : Nat) : Int))) | _ => .non) (fun y hy => ?_) ?_
    · obtain ⟨k, hk⟩ := List.mem_iff_getElem?.mp hy
      obtain ⟨_, rfl⟩ := rngD_at hk
      exact ⟨_, rfl, fun Q qq => qq⟩
    have e : (rngD 0 (18 : Int).toNat).map (fun x => match x with | .int z => D.bl (decide (z = ((i : Nat) : Int))) | _ => .non) = hits i := by rfl
    rw [e]
    refine neD_self (fit_txt trivial) ⟨_, rfl, small_line (by show 3 ≤ 1000000; decide), ?_⟩
    refine neD_self (d := .lst [.bl (decide (((i : Nat) : Int) < 15)), .bl (decide (((i : Nat) : Int) < 15)), .bl (decide ((14 : Int) < (i : Nat)))]) (fit_txt trivial) ⟨_, rfl, ?_⟩
    exact hnx _ _ ⟨_, _, rfl, rfl⟩
  · rintro Γ M' ⟨y2, y3, rfl, rfl⟩
    exact nx y2 y3 _ (RS.Sub.refl _)
end R61
set_option Elab.async false
set_option linter.all false
set_option maxRecDepth 100000
namespace R61
open PySem PySem.Spec PyProof.Rows L2 RS
section
variable {P : DK} {ds : List D} {M : Mem}
set_option maxHeartbeats 0 in
theorem sem__law_errors_right {exs : List Addr} (hx : exs.length = 19) (h : g__law_errors_right ds M P) : ds.length = 1 ∧ w__law_errors_right exs (ends P) (ds.map some ++ List.replicate (7 - ds.length) none) M := by
  obtain ⟨v, rfl, hk, fd, so, q⟩ := h
  have g : ∀ j, j < 19 → exs[j]? = some (exA exs j) := fun j hj => exA_get hx hj
  refine ⟨rfl, ?_⟩
  refine fun a0 n0 a1 n1 a2 n2 a3 n3 a4 n4 d5 a5 m5 n5 => ⟨small_line (by show 6 ≤ 1000000; decide), ?_⟩
  have t0 := (ExMade.nil (exs := exs) (M := M)).add0 (g 0 (by decide)) n0
  have t1 := t0.add0 (g 1 (by decide)) n1
  have t2 := t1.add0 (g 2 (by decide)) n2
  have t3 := t2.add0 (g 3 (by decide)) n3
  have t4 := t3.add0 (g 4 (by decide)) n4
  have t5 := t4.add1 (g 5 (by decide)) m5 n5
  refine fun d6 a6 m6 n6 d7 a7 m7 n7 d8 a8 m8 n8 d9 a9 m9 n9 d10 a10 m10 n10 => ⟨small_line (by show 5 ≤ 1000000; decide), small_line (by show 11 ≤ 1000000; decide), ?_⟩
  have t6 := t5.add1 (g 6 (by decide)) m6 n6
  have t7 := t6.add1 (g 7 (by decide)) m7 n7
  have t8 := t7.add1 (g 8 (by decide)) m8 n8
  have t9 := t8.add1 (g 9 (by decide)) m9 n9
  have t10 := t9.add1 (g 10 (by decide)) m10 n10
  refine fun d11 a11 m11 n11 d12 a12 m12 n12 d13 a13 m13 n13 d14 a14 m14 n14 d15 a15 m15 n15 => ⟨small_line (by show 5 ≤ 1000000; decide), small_line (by show 16 ≤ 1000000; decide), ?_⟩
  have t11 := t10.add1 (g 11 (by decide)) m11 n11
  have t12 := t11.add1 (g 12 (by decide)) m12 n12
  have t13 := t12.add1 (g 13 (by decide)) m13 n13
  have t14 := t13.add1 (g 14 (by decide)) m14 n14
  have t15 := t14.add1 (g 15 (by decide)) m15 n15
  refine fun d16 a16 m16 n16 d17 a17 m17 n17 => ⟨small_line (by show 2 ≤ 1000000; decide), small_line (by show 18 ≤ 1000000; decide), ?_⟩
  have t16 := t15.add1 (g 16 (by decide)) m16 n16
  have t17 := t16.add1 (g 17 (by decide)) m17 n17
  refine loop_ok hx t17 rfl fun y2 y3 M1 s1 => ?_
  have s18 := t17.s.trans s1
  refine fld_ok rfl fun M2 s2 => ?_
  refine fld_ok rfl fun M3 s3 => ?_
  refine fld_ok rfl fun M4 s4 => ?_
  refine fld_ok rfl fun M5 s5' => ⟨small_line (by show 4 ≤ 1000000; decide), ?_⟩
  refine fld_ok rfl fun M6 s6' => ?_
  refine fld_ok rfl fun M7 s7' => ?_
  refine fld_ok rfl fun M8 s8' => ?_
  refine fld_ok rfl fun M9 s9' => ⟨small_line (by show 4 ≤ 1000000; decide), small_line (by show 8 ≤ 1000000; decide), ?_⟩
  refine fld_ok rfl fun M10 s10' => ?_
  refine fld_ok rfl fun M11 s11' => ?_
  refine fld_ok rfl fun M12 s12' => ?_
  refine fld_ok rfl fun M13 s13' => ⟨small_line (by show 4 ≤ 1000000; decide), small_line (by show 12 ≤ 1000000; decide), ?_⟩
  refine fld_ok rfl fun M14 s14' => ⟨small_line (by show 1 ≤ 1000000; decide), small_line (by show 13 ≤ 1000000; decide), ?_⟩
  have sA := ((((((((((((s18.trans s2).trans s3).trans s4).trans s5').trans s6').trans s7').trans s8').trans s9').trans s10').trans s11').trans s12').trans s13').trans s14'
  refine ⟨by show 13 ≤ 1000000; decide, rfl, ?_⟩
  refine lcO_map (fun _ => .str v.py.shown) (fun x hx => ⟨_, rfl, fun Q qq => ?_⟩) ?_
  · have ex : x = v := by simpa using hx
    subst ex
    exact ⟨fd, qq⟩
  · refine ⟨fd, small_line (by show 1 ≤ 1000000; decide), by decide, by decide, by show 1 ≤ 1000; decide, ?_⟩
    refine eqD_self (d := .lst [.str v.py.shown, .str v.py.shown, .str v.py.shown, .str v.py.shown, .str v.py.shown, .str v.py.shown, .str v.py.shown, .str v.py.shown, .str v.py.shown, .str v.py.shown, .str v.py.shown, .str v.py.shown, .str v.py.shown]) (fit_txt ⟨so, so, so, so, so, so, so, so, so, so, so, so, so, trivial⟩) ?_
    exact q _ sA
end
end R61
set_option Elab.async false
set_option linter.all false
set_option maxRecDepth 100000
namespace R61
open PySem PySem.Spec PyProof.Rows L2 RS
theorem calm_all {hs : List Int} (ok : RingOk hs) (b : Bool) : calmR (limOf b) hs = .ok hs := by
  cases b with
  | false => rfl
  | true =>
    show calmR (some (0, 24)) hs = _
    simp only [calmR]
    rw [if_neg (by have := few24 ok (t := 0) (Int.le_refl _); show ¬ 24 < leastTurns hs 0; omega)]
section
variable {okC : Addr → Prop} {gk : Addr → DSpX} {C d l a L : Addr} {bb : Bool}
abbrev bB (C a : Addr) (F : List Addr) (R : List (List Int)) (e : List D) (bb : Bool) : BD := ⟨C, a, F, R, e, limOf bb⟩
/-- what follows the choice of a board -/
abbrev wTurn (okC : Addr → Prop) (gk : Addr → DSpX) : DS := (wSeq (wSet 9 (wN gEditE (wCons (wName 1) (wCons (wOp ixD (wName 6) (wName 8)) (wNil))))) (wSeq (wIf (wCmpT neD (wN (noX (gDoZ okC gk)) (wCons (wOp ixD (wName 5) (wName 8)) (wCons (wName 9) (wNil)))) (wLenI okC (fun _ => (gZ_Board___len__ okC)) (wOp ixD (wName 5) (wName 8)))) (wRet (wC (.bl false))) (wNext)) (wIf (wCmpT gtD (wN gDraw (wCons (wName 1) (wCons (wC (.int 3)) (wNil)))) (wC (.int 0))) (wStore (wN gAfterE (wCons (wOp ixD (wName 6) (wName 8)) (wCons (wName 9) (wNil)))) (wName 6) (wName 8)) (wIf (wCmpT neD (wMet okC "undo" (fun ds _ => ds) (fun C => noX ((fun _ => (gZ_Board_undo okC)) C)) (wOp ixD (wName 5) (wName 8)) (wNil) (wNil)) (wLenI okC (fun _ => (gZ_Board___len__ okC)) (wOp ixD (wName 5) (wName 8)))) (wRet (wC (.bl false))) (wNext)))))
set_option maxHeartbeats 0 in
theorem step {Fe : DEnds} {M : Mem} {n : Int} {F : List Addr} {R : List (List Int)} {e : List D} {bs : List BD} {xs ts : List D} {r : List Int} {k : Nat} {y0 y2 y3 y4 y7 y9 y10 y11 y12 : Option D} (w : LB okC gk d l M n (bB C a F R e bb :: bs) [(L, xs)]) (hv : R.getLast? = some r) (hn : n < 2 ^ 37) (few : e.length < 60) (hx : xs[k]? = some (ringD r)) (ht : ts[k]? = some (.obj (.ref a)))
    (nx : ∀ M' n' F' R' e' r' y9', LB okC gk d l M' n' (bB C a F' R' e' bb :: bs) [(L, xs.set k (ringD r'))] → R'.getLast? = some r' → e'.length ≤ e.length + 1 → n' ≤ n + 9 → Fe.nx [y0, some (.obj (.ref d)), y2, y3, y4, some (.lst ts), some (.obj (.ref L)), y7, some (.int (k : Nat)), y9', y10, y11, y12] M') :
    wTurn okC gk Fe [y0, some (.obj (.ref d)), y2, y3, y4, some (.lst ts), some (.obj (.ref L)), y7, some (.int (k : Nat)), y9, y10, y11, y12] M := by
  have B : BoardZ okC gk C M a F R e (limOf bb) := w.b0
  have ok := B.b.ok r (List.mem_of_getLast? hv)
  have hlen := B.b.len
  have hk : k < xs.length := (List.getElem?_eq_some_iff.mp hx).1
  have hat : atI xs ((k : Nat) : Int) = some (ringD r) := atI_nat hx
  have hbt : atI ts ((k : Nat) : Int) = some (.obj (.ref a)) := atI_nat ht
  refine ⟨_, _, w.at0, hat, d, l, n, r, rfl, w.dk, by omega, ok, fun M1 n1 ed DK1 c0 c1 k1 he => ?_⟩
  have w1 := w.draw DK1 k1
  have B1 : BoardZ okC gk C M1 a F R e (limOf bb) := w1.b0
  refine ⟨_, hbt, C, a, F, R, e, limOf bb, r, ed.z, by rw [Ed.zd], B1, Ed.zkn ed, hv, ?_⟩
  have ok' := Ed.ok_app he ok
  rw [Ed.zres he few, calm_all ok' bb, Ed.zd]
  intro M2 b2 u2
  have w2 : LB okC gk d l M2 n1 (bB C a F (R ++ [ed.app r]) (e ++ [ed.d]) bb :: bs) [(L, xs)] := w1.did0 b2 u2 NewF.refl
  have B2 : BoardZ okC gk C M2 a F (R ++ [ed.app r]) (e ++ [ed.d]) (limOf bb) := w2.b0
  have l2 : (e ++ [ed.d]).length = e.length + 1 := by rw [List.length_append]; rfl
  obtain ⟨g2, j2, _⟩ := B2.b.ins B2.oc (m := "x") (by decide)
  refine ⟨_, hbt, C, g2, j2, C, a, F, _, _, limOf bb, rfl, B2.b, B2.oc, _, rfl, by omega, by rw [l2]; omega, ?_⟩
  refine ⟨_, rfl, ?_⟩
  rw [l2, show decide ((((e.length + 1 : Nat) : Int)) = ((e.length + 1 : Nat) : Int)) = true from decide_eq_true rfl]
  refine ⟨d, l, n1, 3, rfl, w2.dk, by omega, by decide, by decide, fun q M3 q0 q1 DK3 k3 => ?_⟩
  have w3 := w2.draw DK3 k3
  have hv2 : (R ++ [ed.app r]).getLast? = some (ed.app r) := by rw [List.getLast?_append]; rfl
  refine ⟨_, rfl, ite2 (fun c => ?_) (fun c => ?_)⟩
  · refine ⟨_, _, w3.at0, hat, r, ed, rfl, ok, he, _, _, w3.at0, ixN_nat hk, ?_⟩
    have w4 := w3.set0 (xs.set k (ringD (ed.app r)))
    exact nx _ _ F _ _ (ed.app r) _ w4 hv2 (by omega) (by omega)
  · have B3 : BoardZ okC gk C M3 a F (R ++ [ed.app r]) (e ++ [ed.d]) (limOf bb) := w3.b0
    obtain ⟨fs, i1, i2⟩ := B3.b.ins B3.oc (m := "undo") (by decide)
    refine ⟨_, hbt, _, fs, i1, i2, C, a, F, _, _, limOf bb, rfl, B3.b, B3.oc, ?_⟩
    rw [l2, if_neg (by omega)]
    intro M4 F4 b4 u4 n4
    have e1 : (R ++ [ed.app r]).take (e.length + 1) = R := List.take_left' hlen
    have e2 : (e ++ [ed.d]).take (e.length + 1 - 1) = e := List.take_left' (by omega)
    rw [e1, e2] at b4
    have w4 : LB okC gk d l M4 (n1 + 1) (bB C a F4 R e bb :: bs) [(L, xs)] := w3.did0 b4 u4 n4
    have B4 : BoardZ okC gk C M4 a F4 R e (limOf bb) := w4.b0
    obtain ⟨g4, j4, _⟩ := B4.b.ins B4.oc (m := "x") (by decide)
    refine ⟨_, hbt, C, g4, j4, C, a, F4, _, _, limOf bb, rfl, B4.b, B4.oc, _, rfl, by omega, by omega, ?_⟩
    refine ⟨_, rfl, ?_⟩
    rw [show decide ((((e.length + 1 - 1 : Nat) : Int)) = ((e.length : Nat) : Int)) = true from decide_eq_true (by omega)]
    have es : xs.set k (ringD r) = xs := by
      apply List.ext_getElem?
      intro j
      rw [List.getElem?_set]
      by_cases h : k = j
      · subst h
        rw [if_pos rfl, if_pos hk, hx]
      · rw [if_neg h]
    exact nx _ _ F4 R e r _ (by rw [es]; exact w4) hv (by omega) (by omega)
end
end R61
set_option Elab.async false
set_option linter.all false
set_option maxRecDepth 100000
namespace R61
open PySem PySem.Spec PyProof.Rows L2 RS
theorem v_s {x : Str} (h : (reprText x).length ≤ 100) : Val 1 0 (.str x) := ⟨by simp only [Clm]; exact h, by simp only [D.size]; exact Nat.le_refl _, by simp only [D.deep]; exact Nat.le_refl _⟩
theorem found_fine {r0 r1 : List Int} (o0 : RingOk r0) (o1 : RingOk r1) (b c : Bool) : (D.lst [.bl b, .bl c, ringD r0, ringD r1]).fineD := by
  have v0 := (vRing o0.2.2)
  have v1 := (vRing o1.2.2)
  have h0 := v0.sz
  have h1 := v1.sz
  have g0 := o0.2.1
  have g1 := o1.2.1
  refine (Val.lst (S := 60) (k := 1) (fun d hd => ?_) (by simp only [D.sizes, D.size]; omega) (fun d hd => ?_)).fine (by decide) (by decide)
  · simp only [List.mem_cons, List.not_mem_nil, or_false] at hd
    rcases hd with rfl | rfl | rfl | rfl
    · simp only [Clm]
    · simp only [Clm]
    · exact v0.clm
    · exact v1.clm
  · simp only [List.mem_cons, List.not_mem_nil, or_false] at hd
    rcases hd with rfl | rfl | rfl | rfl
    · simp only [D.deep]; decide
    · simp only [D.deep]; decide
    · exact v0.dp
    · exact v1.dp
theorem odd_menu {r : Int} (h0 : 0 ≤ r) (h1 : r < 7) (hs : List Int) : ∃ v : D, v.known = true ∧ atI [D.non, .int 5, .str (Str.ofString "board"), ringD hs, .lst (hs.map .int), .tup [], .dct []] r = some v := by
  have : r = 0 ∨ r = 1 ∨ r = 2 ∨ r = 3 ∨ r = 4 ∨ r = 5 ∨ r = 6 := by omega
  rcases this with rfl | rfl | rfl | rfl | rfl | rfl | rfl <;> exact ⟨_, rfl, rfl⟩
theorem val_menu {r : Int} (h0 : 0 ≤ r) (h1 : r < 8) : ∃ v : D, v.known = true ∧ v.fineD ∧ PyData.strOk v.py.shown = true ∧ atI [D.non, .int 5, .bl true, .str (Str.ofString "a"), .tup [.int 1, .str (Str.ofString "b")], .lst [], .dct [], .int (-1)] r = some v := by
  have : r = 0 ∨ r = 1 ∨ r = 2 ∨ r = 3 ∨ r = 4 ∨ r = 5 ∨ r = 6 ∨ r = 7 := by omega
  have vn : Val 1 0 .non := ⟨by simp only [Clm], by simp only [D.size]; decide, by simp only [D.deep]; decide⟩
  have vb : Val 1 0 (.bl true) := ⟨by simp only [Clm], by simp only [D.size]; decide, by simp only [D.deep]; decide⟩
  have vd : Val 1 1 (.dct []) := ⟨by simp [Clm], by simp only [D.size]; decide, by simp only [D.deep]; decide⟩
  have vl : Val 1 1 (.lst []) := Val.lst (S := 0) (k := 0) (by intro d hd; cases hd) (by simp only [D.sizes]; decide) (by intro d hd; cases hd)
  have vt : Val 3 1 (.tup [.int 1, .str (Str.ofString "b")]) := Val.tup (S := 2) (k := 0) (fun d hd => by
    simp only [List.mem_cons, List.not_mem_nil, or_false] at hd
    rcases hd with rfl | rfl
    · exact (RS.vInt (by decide)).clm
    · exact (v_s (by decide +kernel)).clm) (by simp only [D.sizes, D.size]; decide) (fun d hd => by
    simp only [List.mem_cons, List.not_mem_nil, or_false] at hd
    rcases hd with rfl | rfl
    · exact (RS.vInt (i := 1) (by decide)).dp
    · exact (v_s (x := Str.ofString "b") (by decide +kernel)).dp)
  rcases this with rfl | rfl | rfl | rfl | rfl | rfl | rfl | rfl
  · exact ⟨.non, rfl, vn.fine (by decide) (by decide), by decide +kernel, rfl⟩
  · exact ⟨.int 5, rfl, (RS.vInt (by decide)).fine (by decide) (by decide), by decide +kernel, rfl⟩
  · exact ⟨.bl true, rfl, vb.fine (by decide) (by decide), by decide +kernel, rfl⟩
  · exact ⟨.str (Str.ofString "a"), rfl, (v_s (by decide +kernel)).fine (by decide) (by decide), by decide +kernel, rfl⟩
  · exact ⟨.tup [.int 1, .str (Str.ofString "b")], rfl, vt.fine (by decide) (by decide), by decide +kernel, rfl⟩
  · exact ⟨.lst [], rfl, vl.fine (by decide) (by decide), by decide +kernel, rfl⟩
  · exact ⟨.dct [], rfl, vd.fine (by decide) (by decide), by decide +kernel, rfl⟩
  · exact ⟨.int (-1), rfl, (RS.vInt (by decide)).fine (by decide) (by decide), by decide +kernel, rfl⟩
theorem others {r : Int} (h0 : 0 ≤ r) (h1 : r < 3) {hs : List Int} (ok : RingOk hs) (hl : hs.length ≤ 11) : ∃ gs, RingOk gs ∧ gs.length ≤ 12 ∧ atI [ringD hs, .tup (cutD (hs.map .int) (some 1) none ++ cutD (hs.map .int) none (some 1)), .tup (hs.map .int ++ cutD (hs.map .int) none (some 1))] r = some (ringD gs) := by
  have c1 : cutD (hs.map .int) (some (1 : Int)) none = (hs.drop 1).map .int := by rw [show (1 : Int) = ((1 : Nat) : Int) from rfl, cutD_from, List.map_drop]
  have c2 : cutD (hs.map .int) none (some (1 : Int)) = (hs.take 1).map .int := by rw [show (1 : Int) = ((1 : Nat) : Int) from rfl, cutD_to, List.map_take]
  have o1 := ok.1
  rw [c1, c2, ← List.map_append, ← List.map_append]
  have : r = 0 ∨ r = 1 ∨ r = 2 := by omega
  rcases this with rfl | rfl | rfl
  · exact ⟨hs, ok, by omega, rfl⟩
  · refine ⟨hs.drop 1 ++ hs.take 1, ⟨?_, ?_, fun x hx => ?_⟩, ?_, rfl⟩
    · rw [List.length_append, List.length_drop, List.length_take]; omega
    · rw [List.length_append, List.length_drop, List.length_take]; omega
    · rcases List.mem_append.mp hx with h | h
      · exact ok.2.2 x (List.mem_of_mem_drop h)
      · exact ok.2.2 x (List.mem_of_mem_take h)
    · rw [List.length_append, List.length_drop, List.length_take]; omega
  · refine ⟨hs ++ hs.take 1, ⟨?_, ?_, fun x hx => ?_⟩, ?_, rfl⟩
    · rw [List.length_append, List.length_take]; omega
    · rw [List.length_append, List.length_take]; omega
    · rcases List.mem_append.mp hx with h | h
      · exact ok.2.2 x h
      · exact ok.2.2 x (List.mem_of_mem_take h)
    · rw [List.length_append, List.length_take]; omega
section
variable {cB cC d l : Addr}
abbrev gkP (cB cC : Addr) : Addr → DSpX := fun C => if C = cC then gC_CalmBoard_keep cC else gZ_Board_keep (okBC cB cC)
set_option maxHeartbeats 0 in
theorem law_rest {a0 a1 L : Addr} {M : Mem} {n : Int} {F0 F1 : List Addr} {bb : Bool} {r0 r1 : List Int} {y2 y3 : Option D} (w : LB (okBC cB cC) (gkP cB cC) d l M n [bB (clsOf cB cC bb) a0 F0 [r0] [] bb, bB (clsOf cB cC bb) a1 F1 [r1] [] bb] [(L, [ringD r0, ringD r1])]) (hn : n ≤ 1000) :
    w_law_b1 (okBC cB cC) (gkP cB cC) cB cC lawEnds [none, some (.obj (.ref d)), y2, y3, some (.bl bb), some (.lst [.obj (.ref a0), .obj (.ref a1)]), some (.obj (.ref L)), none, none, none, none, none, none] M := by
  refine ⟨d, l, n, 13, rfl, w.dk, by omega, by decide, by decide, fun q M1 q0 q1 DK1 k1 => ?_⟩
  have w1 := w.draw DK1 k1
  obtain ⟨k, hk⟩ : ∃ k : Nat, q = (k : Int) := ⟨q.toNat, by omega⟩
  refine ⟨by omega, by omega, ?_⟩
  show forD _ _ _ (rngD 0 q.toNat) _ _
  rw [hk, Int.toNat_natCast]
  refine forD_ind (fun i Γ M' => ∃ (F0 F1 : List Addr) (R0 R1 : List (List Int)) (e0 e1 : List D) (r0 r1 : List Int) (n' : Int) (y7 y8 y9 : Option D), Γ = [none, some (.obj (.ref d)), y2, y3, some (.bl bb), some (.lst [.obj (.ref a0), .obj (.ref a1)]), some (.obj (.ref L)), y7, y8, y9, none, none, none] ∧
      LB (okBC cB cC) (gkP cB cC) d l M' n' [bB (clsOf cB cC bb) a0 F0 R0 e0 bb, bB (clsOf cB cC bb) a1 F1 R1 e1 bb] [(L, [ringD r0, ringD r1])] ∧ R0.getLast? = some r0 ∧ R1.getLast? = some r1 ∧ e0.length ≤ i ∧ e1.length ≤ i ∧ n' ≤ 1001 + 10 * i) ?_ ?_
    ⟨F0, F1, [r0], [r1], [], [], r0, r1, n + 1, none, none, none, rfl, w1, rfl, rfl, Nat.le_refl _, Nat.le_refl _, by omega⟩
  · rintro i x Γ M' hx ⟨F0, F1, R0, R1, e0, e1, r0, r1, n', y7, y8, y9, rfl, w, hv0, hv1, hl0, hl1, hn'⟩ nx hnx
    obtain ⟨hi, rfl⟩ := rngD_at hx
    have hik : i < k := hi
    refine ⟨_, rfl, d, l, n', 2, rfl, w.dk, by omega, by decide, by decide, fun c M2 c0 c1 DK2 k2 => ?_⟩
    have w2 := w.draw DK2 k2
    have : c = 0 ∨ c = 1 := by omega
    rcases this with rfl | rfl
    · refine step (k := 0) (ts := [.obj (.ref a0), .obj (.ref a1)]) w2 hv0 (by omega) (by omega) rfl rfl fun M3 n3 F' R' e' r' y9' w3 hv3 le3 hn3 => ?_
      exact hnx _ M3 ⟨F', F1, R', R1, e', e1, r', r1, n3, _, _, _, rfl, w3, hv3, hv1, by omega, by omega, by omega⟩
    · refine step (k := 1) (ts := [.obj (.ref a0), .obj (.ref a1)]) w2.swap hv1 (by omega) (by omega) rfl rfl fun M3 n3 F' R' e' r' y9' w3 hv3 le3 hn3 => ?_
      exact hnx _ M3 ⟨F0, F', R0, R', e0, e', r0, r', n3, _, _, _, rfl, w3.swap, hv0, hv3, by omega, by omega, by omega⟩
  · rintro Γ M' ⟨F0, F1, R0, R1, e0, e1, r0, r1, n', y7, y8, y9, rfl, w, hv0, hv1, hl0, hl1, hn'⟩
    rw [rngD_len] at hn'
    have B0 : BoardZ (okBC cB cC) (gkP cB cC) (clsOf cB cC bb) M' a0 F0 R0 e0 (limOf bb) := w.b0
    have B1 : BoardZ (okBC cB cC) (gkP cB cC) (clsOf cB cC bb) M' a1 F1 R1 e1 (limOf bb) := w.b1
    have o0 := B0.b.ok r0 (List.mem_of_getLast? hv0)
    have o1 := B1.b.ok r1 (List.mem_of_getLast? hv1)
    have ev : PyData.eqv (ringD r0).py (ringD r1).py = decide (r0 = r1) := eqvD_ti r0 r1
    have hm0 : atI [ringD r0, ringD r1] 0 = some (ringD r0) := rfl
    have hm1 : atI [ringD r0, ringD r1] 1 = some (ringD r1) := rfl
    refine ⟨_, _, w.at0, hm0, _, _, w.at0, hm1, fit_ti r0, fit_ti r1, ?_⟩
    rw [ev]
    refine ⟨_, rfl, _, rfl, eq_bds (h1 := r0) (h2 := r1) B0.b B1.b B0.oc B1.oc hv0 hv1 ?_⟩
    rw [eqZ_same]
    refine ⟨_, rfl, _, rfl, ne_bds (h1 := r0) (h2 := r1) B0.b B1.b B0.oc B1.oc hv0 hv1 ?_⟩
    rw [eqZ_same]
    obtain ⟨f0, i1, i2⟩ := B0.b.ins B0.oc (m := "ring") (by decide)
    obtain ⟨f1, j1, j2⟩ := B1.b.ins B1.oc (m := "ring") (by decide)
    refine ⟨_, rfl, _, f0, i1, i2, _, a0, F0, R0, _, _, .non, rfl, B0.b, B0.oc, rfl, ?_⟩
    rw [show verR R0 .non = some r0 from hv0]
    refine ⟨_, rfl, _, f1, j1, j2, _, a1, F1, R1, _, _, .non, rfl, B1.b, B1.oc, rfl, ?_⟩
    rw [show verR R1 .non = some r1 from hv1]
    have ff := found_fine o0 o1 (decide (r0 = r1)) (!decide (r0 = r1))
    refine ⟨small_line (by show 4 ≤ 1000000; decide), ff, _, _, w.at0, hm0, _, _, w.at0, hm1, small_line (by show 4 ≤ 1000000; decide), ff, _, rfl, ?_⟩
    rw [decide_eq_true rfl]
    refine ⟨_, _, w.at0, hm0, _, _, w.at0, hm0, small_line (by show 0 ≤ 1000000; decide), small_line (by show 7 ≤ 1000000; decide), d, l, n', 7, rfl, w.dk, by omega, by decide, by decide, fun c M2 c0 c1 DK2 k2 => ?_⟩
    have w2 := w.draw DK2 k2
    obtain ⟨v, hk, hat⟩ := odd_menu c0 c1 r0
    refine ⟨v, hat, ?_⟩
    refine ⟨_, _, w2.at0, hm0, r0, bb, rfl, o0, fun a F M3 bz up => ?_⟩
    have w3 := w2.newB (b := bB (clsOf cB cC bb) a F [r0] [] bb) bz up
    have B3 : BoardZ (okBC cB cC) (gkP cB cC) (clsOf cB cC bb) M3 a F [r0] [] (limOf bb) := w3.b0
    have B4 : BoardZ (okBC cB cC) (gkP cB cC) (clsOf cB cC bb) M3 a0 F0 R0 e0 (limOf bb) := w3.b1
    refine ⟨_, rfl, eq_bds (h1 := r0) (h2 := r0) B3.b B4.b B3.oc B4.oc rfl hv0 ?_⟩
    rw [eqZ_same, decide_eq_true rfl]
    refine ⟨_, rfl, ne_odd_ B4.b B4.oc hk ?_⟩
    exact ⟨_, rfl, eq_odd B4.b B4.oc hk rfl⟩
set_option maxHeartbeats 0 in
theorem sem_law {M : Mem} (hne : cB ≠ cC) (DK : DeckM M d l 0) : w_law (okBC cB cC) (gkP cB cC) cB cC lawEnds ((List.replicate 13 none).set 1 (some (.obj (.ref d)))) M := by
  refine ⟨small_line (by show 2 ≤ 1000000; decide), small_line (by show 0 ≤ 1000000; decide), small_line (by show 8 ≤ 1000000; decide), d, l, 0, 8, rfl, DK, by decide, by decide, by decide, fun c M1 c0 c1 DK1 k1 => ?_⟩
  obtain ⟨v, hk, fd, so, hat⟩ := val_menu c0 c1
  refine ⟨v, hat, v, rfl, hk, fd, so, fun M2 s2 => ?_⟩
  have DK2 := deck_all DK1 s2
  refine ⟨d, l, _, 11, rfl, DK2, by decide, by decide, by decide, fun M3 n3 hs DK3 c2 c3 k3 ok hlen => ?_⟩
  have hl : (hs.map D.int).length = hs.length := List.length_map ..
  have hl11 : hs.length ≤ 11 := by omega
  have k1' : cutD (hs.map D.int) (some (1 : Int)) none = (hs.drop 1).map .int := by rw [show (1 : Int) = ((1 : Nat) : Int) from rfl, cutD_from, List.map_drop]
  have k2' : cutD (hs.map D.int) none (some (1 : Int)) = (hs.take 1).map .int := by rw [show (1 : Int) = ((1 : Nat) : Int) from rfl, cutD_to, List.map_take]
  refine ⟨small_line (by rw [k1', k2', List.length_map, List.length_map, List.length_drop, List.length_take]; omega), small_line (by rw [k2', List.length_map, List.length_map, List.length_take]; omega), small_line (by show 3 ≤ 1000000; decide), d, l, n3, 3, rfl, DK3, by omega, by decide, by decide, fun q M4 q0 q1 DK4 k4 => ?_⟩
  obtain ⟨gs, gok, glen, hat3⟩ := others q0 q1 ok hl11
  refine ⟨_, hat3, ?_⟩
  refine ⟨hs, gs, rfl, ok, gok, by omega, glen, fun M5 s5 => ?_⟩
  have DK5 := deck_all DK4 s5
  refine ⟨d, l, _, 2, rfl, DK5, by omega, by decide, by decide, fun c M6 c4 c5 DK6 k6 => ?_⟩
  refine ⟨hs, _, rfl, ok, fun a0 F0 M7 z0 u0 => ⟨gs, _, rfl, gok, fun a1 F1 M8 z1 u1 => ⟨small_line (by show 2 ≤ 1000000; decide), small_line (by show 2 ≤ 1000000; decide), fun L nL => ?_⟩⟩⟩
  have w0 : LB (okBC cB cC) (gkP cB cC) d l M6 _ [] [] := .start DK6
  have w1 := w0.newB (b := bB (clsOf cB cC (decide (c = 0))) a0 F0 [hs] [] (decide (c = 0))) z0 u0
  have w2 := w1.newB (b := bB (clsOf cB cC (decide (c = 0))) a1 F1 [gs] [] (decide (c = 0))) z1 u1
  have w3 := w2.swap.new nL [ringD hs, ringD gs]
  exact law_rest w3 (by omega)
end
end R61
set_option Elab.async false
set_option linter.all false
set_option maxRecDepth 100000
namespace R61
open PySem PySem.Spec PyProof.Rows L2 RS
section
variable {P : Program} {w : World} {K : PySem.W.Frag} {mg : Str → Option Value} {base : Heap}
set_option maxHeartbeats 0 in
theorem ok_all (T : Tx K mg) (hP : SupP P "/claim/cut.py") : FnG P w K mg base CX0 13 T.f_law T.fd_law ["_law_script"] (spLaw K) := by
  have G_is_number : FnG P w K mg base CX0 1 T.f_is_number T.fd_is_number ["value"] (spD K g_is_number) := ok_is_number T   sem_is_number
  have G_is_height : FnG P w K mg base CX0 2 T.f_is_height T.fd_is_height ["value"] (spD K g_is_height) := ok_is_height T G_is_number  sem_is_height
  have G_is_tolerance : FnG P w K mg base CX0 2 T.f_is_tolerance T.fd_is_tolerance ["value"] (spD K gZ_is_tolerance) := ok_is_tolerance T G_is_number  semZ_is_tolerance
  have G_ring_error : FnG P w K mg base CX0 3 T.f_ring_error T.fd_ring_error ["value"] (spD K g_ring_error) := ok_ring_error T G_is_height  sem_ring_error
  have G_heights_after : FnG P w K mg base CX0 1 T.f_heights_after T.fd_heights_after ["ring", "place"] (spD K g_heights_after) := ok_heights_after T   sem_heights_after
  have G_next_other_height : FnG P w K mg base CX0 2 T.f_next_other_height T.fd_next_other_height ["ring", "place"] (spD K g_next_other_height) := ok_next_other_height T G_heights_after  sem_next_other_height
  have G_is_turn : FnG P w K mg base CX0 3 T.f_is_turn T.fd_is_turn ["ring", "place"] (spD K g_is_turn) := ok_is_turn T G_next_other_height  sem_is_turn
  have G_turning_places : FnG P w K mg base CX0 4 T.f_turning_places T.fd_turning_places ["ring"] (spD K g_turning_places) := ok_turning_places T G_is_turn  sem_turning_places
  have G_valley_first : FnG P w K mg base CX0 1 T.f_valley_first T.fd_valley_first ["ring", "turn", "neighbour"] (spD K g_valley_first) := ok_valley_first T   sem_valley_first
  have G_flattest_pair : FnG P w K mg base CX0 2 T.f_flattest_pair T.fd_flattest_pair ["ring", "left"] (spD K g_flattest_pair) := ok_flattest_pair T G_valley_first  sem_flattest_pair
  have G_without_pair : FnG P w K mg base CX0 1 T.f_without_pair T.fd_without_pair ["left", "pair"] (spD K g_without_pair) := ok_without_pair T   sem_without_pair
  have G_find_removal : FnG P w K mg base CX0 5 T.f_find_removal T.fd_find_removal ["ring"] (spD K g_find_removal) := ok_find_removal T G_turning_places G_flattest_pair G_without_pair  sem_find_removal
  have G_swings_of : FnG P w K mg base CX0 6 T.f_swings_of T.fd_swings_of ["ring"] (spD K g_swings_of) := ok_swings_of T G_find_removal  sem_swings_of
  have G_set_height : FnG P w K mg base CX0 1 T.f_set_height T.fd_set_height ["ring", "place", "height"] (spD K g_set_height) := ok_set_height T   sem_set_height
  have G_insert_height : FnG P w K mg base (L2.CX P w) 3 T.f_insert_height T.fd_insert_height ["ring", "place", "height"] (spX K T.ct gZ_insert_height) := ok_insert_height T  (okI_TooLong T) semZ_insert_height
  have G_remove_place : FnG P w K mg base (L2.CX P w) 1 T.f_remove_place T.fd_remove_place ["ring", "place"] (spX K T.ct gZ_remove_place) := ok_remove_place T   semZ_remove_place
  have G_swing_ranges : FnG P w K mg base CX0 7 T.f_swing_ranges T.fd_swing_ranges ["ring"] (spD K g_swing_ranges) := ok_swing_ranges T G_swings_of  sem_swing_ranges
  have G_least_turns : FnG P w K mg base CX0 8 T.f_least_turns T.fd_least_turns ["ring", "tolerance"] (spD K g_least_turns) := ok_least_turns T G_swing_ranges  sem_least_turns
  have G_check_place : FnG P w K mg base (L2.CX P w) 3 T.f_check_place T.fd_check_place ["value", "count"] (spX K T.ct gZ_check_place) := ok_check_place T G_is_number (okI_NoPlace T) semZ_check_place
  have G_check_height : FnG P w K mg base (L2.CX P w) 3 T.f_check_height T.fd_check_height ["value"] (spX K T.ct gZ_check_height) := ok_check_height T G_is_height (okI_BadHeight T) semZ_check_height
  have G_check_tolerance : FnG P w K mg base (L2.CX P w) 3 T.f_check_tolerance T.fd_check_tolerance ["value"] (spX K T.ct gZ_check_tolerance) := ok_check_tolerance T G_is_tolerance (okI_BadTolerance T) semZ_check_tolerance
  have G_Board___init__ : FnG P w K mg base CX0 4 T.f_Board___init__ T.fd_Board___init__ ["self", "ring"] (spD K (gZ_Board___init__ (okBC T.oA_Board T.oA_CalmBoard))) := ok_Board___init__ T G_ring_error  semZ_Board___init__
  have G_Board___len__ : FnG P w K mg base CX0 1 T.f_Board___len__ T.fd_Board___len__ ["self"] (spD K (gZ_Board___len__ (okBC T.oA_Board T.oA_CalmBoard))) := ok_Board___len__ T   semZ_Board___len__
  have G_Board_check_room : FnG P w K mg base (L2.CX P w) 1 T.f_Board_check_room T.fd_Board_check_room ["self"] (spX K T.ct (gZ_Board_check_room (okBC T.oA_Board T.oA_CalmBoard))) := ok_Board_check_room T   semZ_Board_check_room
  have G_Board_keep : FnG P w K mg base (L2.CX P w) 1 T.f_Board_keep T.fd_Board_keep ["self", "edit", "ring"] (spX K T.ct (gZ_Board_keep (okBC T.oA_Board T.oA_CalmBoard))) := ok_Board_keep T   semZ_Board_keep
  have G_Board_ring : FnG P w K mg base (L2.CX P w) 3 T.f_Board_ring T.fd_Board_ring ["self", "version"] (spX K T.ct (gZ_Board_ring (okBC T.oA_Board T.oA_CalmBoard))) := ok_Board_ring T G_is_number (okI_NoVersion T) semZ_Board_ring
  have G_Board_go_back : FnG P w K mg base CX0 1 T.f_Board_go_back T.fd_Board_go_back ["self", "version"] (spD K (gZ_Board_go_back (okBC T.oA_Board T.oA_CalmBoard))) := ok_Board_go_back T   semZ_Board_go_back
  have G_Board_undo : FnG P w K mg base (L2.CX P w) 2 T.f_Board_undo T.fd_Board_undo ["self"] (spX K T.ct (gZ_Board_undo (okBC T.oA_Board T.oA_CalmBoard))) := ok_Board_undo T G_Board_go_back  semZ_Board_undo
  have G_CalmBoard_check_calm : FnG P w K mg base (L2.CX P w) 9 T.f_CalmBoard_check_calm T.fd_CalmBoard_check_calm ["self", "ring"] (spX K T.ct (gC_CalmBoard_check_calm T.oA_CalmBoard)) := ok_CalmBoard_check_calm T G_least_turns (okI_Restless T) semC_CalmBoard_check_calm
  have G_CalmBoard___init__ : FnG P w K mg base (L2.CX P w) 10 T.f_CalmBoard___init__ T.fd_CalmBoard___init__ ["self", "ring", "tolerance", "turns"] (spX K T.ct (gC_CalmBoard___init__ T.oA_CalmBoard)) := ok_CalmBoard___init__ T G_check_tolerance G_is_number G_Board___init__ G_CalmBoard_check_calm (okI_BadTurns T) hP (semC_CalmBoard___init__ (.inr rfl))
  have G_CalmBoard_keep : FnG P w K mg base (L2.CX P w) 10 T.f_CalmBoard_keep T.fd_CalmBoard_keep ["self", "edit", "ring"] (spX K T.ct (gC_CalmBoard_keep T.oA_CalmBoard)) := ok_CalmBoard_keep T G_CalmBoard_check_calm G_Board_keep  hP (semC_CalmBoard_keep (.inr rfl))
  have G_Board___eq__ : FnG P w K mg base CX0 1 T.f_Board___eq__ T.fd_Board___eq__ ["self", "other"] (spD K (gE_Board___eq__ (okBC T.oA_Board T.oA_CalmBoard))) := ok_Board___eq__ T   semE_Board___eq__
  have G_Board_put : FnG P w K mg base (L2.CX P w) 11 T.f_Board_put T.fd_Board_put ["self", "place", "height"] (spX K T.ct (gZ_Board_put (okBC T.oA_Board T.oA_CalmBoard) (fun C => if C = T.oA_CalmBoard then (gC_CalmBoard_keep T.oA_CalmBoard) else (gZ_Board_keep (okBC T.oA_Board T.oA_CalmBoard))))) := ok_Board_put T G_check_place G_check_height G_set_height G_Board_check_room G_Board_ring G_Board_keep G_CalmBoard_keep  semZ_Board_put
  have G_Board_insert : FnG P w K mg base (L2.CX P w) 11 T.f_Board_insert T.fd_Board_insert ["self", "place", "height"] (spX K T.ct (gZ_Board_insert (okBC T.oA_Board T.oA_CalmBoard) (fun C => if C = T.oA_CalmBoard then (gC_CalmBoard_keep T.oA_CalmBoard) else (gZ_Board_keep (okBC T.oA_Board T.oA_CalmBoard))))) := ok_Board_insert T G_check_place G_check_height G_insert_height G_Board_check_room G_Board_ring G_Board_keep G_CalmBoard_keep  semZ_Board_insert
  have G_Board_remove : FnG P w K mg base (L2.CX P w) 11 T.f_Board_remove T.fd_Board_remove ["self", "place"] (spX K T.ct (gZ_Board_remove (okBC T.oA_Board T.oA_CalmBoard) (fun C => if C = T.oA_CalmBoard then (gC_CalmBoard_keep T.oA_CalmBoard) else (gZ_Board_keep (okBC T.oA_Board T.oA_CalmBoard))))) := ok_Board_remove T G_check_place G_remove_place G_Board_check_room G_Board_ring G_Board_keep G_CalmBoard_keep  semZ_Board_remove
  have G__law_draw : FnG P w K mg base CX0 1 T.f__law_draw T.fd__law_draw ["_law_deck_here", "_law_many"] (spD K gDraw) := ok__law_draw T   sem_drawC
  have G__law_ring : FnG P w K mg base CX0 2 T.f__law_ring T.fd__law_ring ["_law_deck_here", "_law_most"] (spD K gRingE) := ok__law_ring T G__law_draw  sem_ringE
  have G__law_edit : FnG P w K mg base CX0 2 T.f__law_edit T.fd__law_edit ["_law_deck_here", "_law_ring_here"] (spD K gEditE) := ok__law_edit T G__law_draw  sem_editE
  have G__law_after : FnG P w K mg base CX0 1 T.f__law_after T.fd__law_after ["_law_ring_here", "_law_edit_here"] (spD K gAfterE) := ok__law_after T   sem_afterE
  have G__law_do : FnG P w K mg base (L2.CX P w) 12 T.f__law_do T.fd__law_do ["_law_table", "_law_edit_here"] (spX K T.ct (gDoZ (okBC T.oA_Board T.oA_CalmBoard) (fun C => if C = T.oA_CalmBoard then (gC_CalmBoard_keep T.oA_CalmBoard) else (gZ_Board_keep (okBC T.oA_Board T.oA_CalmBoard))))) := ok__law_do T G_Board_remove G_Board_put G_Board_insert  sem_doZ
  have G__law_flags : FnG P w K mg base CX0 1 T.f__law_flags T.fd__law_flags ["_law_e"] (spD K (g__law_flags [T.c_LastPlace, T.c_OutOfRange, T.c_TooManyEdits, T.c_NothingToUndo, T.c_BadEdits, T.c_NotDistinct, T.c_TooLong, T.c_BadRing, T.c_BadHeight, T.c_BadTolerance, T.c_BadTurns, T.c_Restless, T.c_BadEdit, T.c_Rejected, T.c_BadText, T.c_NoIndex, T.c_NoPlace, T.c_NoVersion, T.c_RingError])) := ok__law_flags T   sem__law_flags
  have G__law_errors_right : FnG P w K mg base CX0 4 T.f__law_errors_right T.fd__law_errors_right ["_law_value"] (spD K g__law_errors_right) := ok__law_errors_right T G__law_flags (okI_NotDistinct T) (okI_TooLong T) (okI_BadRing T) (okI_BadHeight T) (okI_BadTolerance T) (okI_BadTurns T) (okI_Restless T) (okI_BadEdit T) (okI_Rejected T) (okI_BadText T) (okI_NoIndex T) (okI_NoPlace T) (okI_NoVersion T) (sem__law_errors_right rfl)
  have G__law_new : FnG P w K mg base CX0 12 T.f__law_new T.fd__law_new ["_law_ring_here", "_law_is_calm"] (spD K (g__law_new (okBC T.oA_Board T.oA_CalmBoard) (fun C => if C = T.oA_CalmBoard then (gC_CalmBoard_keep T.oA_CalmBoard) else (gZ_Board_keep (okBC T.oA_Board T.oA_CalmBoard))) T.oA_Board T.oA_CalmBoard)) := ok__law_new T G_Board___init__ G_CalmBoard___init__  (sem__law_new T.ne_cls)
  have G__law_pairs_right : FnG P w K mg base CX0 12 T.f__law_pairs_right T.fd__law_pairs_right ["_law_ring_here", "_law_other"] (spD K g__law_pairs_right) := ok__law_pairs_right T G_CalmBoard___init__ G_Board___eq__ G_Board___init__  (sem__law_pairs_right T.ne_cls)
  exact ok_law T G__law_ring G__law_errors_right G__law_draw G__law_pairs_right G__law_edit G__law_new G__law_do G__law_after G_Board___eq__ G_Board_ring G_Board___len__ G_Board_undo (sem_law T.ne_cls)
end
/-! ### the end -/
set_option maxHeartbeats 0 in
theorem all_mk {w : World} {K : PySem.W.Frag} {h : Heap} {mg : Str → Option Value} {fa : Addr} (X : K.In h) (G : h.Ns mainGlobals mg) (hfa : mg "law" = some (.ref fa))
    {oA_Board : Addr}
    {oA_CalmBoard : Addr}
    (oc_Board : OwnC K "Board" oA_Board)
    (oc_CalmBoard : OwnC K "CalmBoard" oA_CalmBoard)
    (d_is_number : DefAt K "is_number" s_is_number)
    (d_is_height : DefAt K "is_height" s_is_height)
    (d_is_tolerance : DefAt K "is_tolerance" s_is_tolerance)
    (d_ring_error : DefAt K "ring_error" s_ring_error)
    (d_turning_places : DefAt K "turning_places" s_turning_places)
    (d_is_turn : DefAt K "is_turn" s_is_turn)
    (d_next_other_height : DefAt K "next_other_height" s_next_other_height)
    (d_heights_after : DefAt K "heights_after" s_heights_after)
    (d_swings_of : DefAt K "swings_of" s_swings_of)
    (d_find_removal : DefAt K "find_removal" s_find_removal)
    (d_flattest_pair : DefAt K "flattest_pair" s_flattest_pair)
    (d_valley_first : DefAt K "valley_first" s_valley_first)
    (d_without_pair : DefAt K "without_pair" s_without_pair)
    (d_set_height : DefAt K "set_height" s_set_height)
    (d_insert_height : DefAt K "insert_height" s_insert_height)
    (d_remove_place : DefAt K "remove_place" s_remove_place)
    (d_swing_ranges : DefAt K "swing_ranges" s_swing_ranges)
    (d_least_turns : DefAt K "least_turns" s_least_turns)
    (d_check_place : DefAt K "check_place" s_check_place)
    (d_check_height : DefAt K "check_height" s_check_height)
    (d_check_tolerance : DefAt K "check_tolerance" s_check_tolerance)
    (d__law_deck : DefAt K "_law_deck" s__law_deck)
    (d__law_draw : DefAt K "_law_draw" s__law_draw)
    (d__law_ring : DefAt K "_law_ring" s__law_ring)
    (d__law_after : DefAt K "_law_after" s__law_after)
    (d__law_edit : DefAt K "_law_edit" s__law_edit)
    (d__law_do : DefAt K "_law_do" s__law_do)
    (d__law_flags : DefAt K "_law_flags" s__law_flags)
    (d__law_errors_right : DefAt K "_law_errors_right" s__law_errors_right)
    (d__law_pairs_right : DefAt K "_law_pairs_right" s__law_pairs_right)
    (d__law_new : DefAt K "_law_new" s__law_new)
    (d_law : DefAt K "law" s_law)
    (d_Board___init__ : MetAt K oA_Board "__init__" "Board.__init__" s_Board___init__)
    (d_Board___len__ : MetAt K oA_Board "__len__" "Board.__len__" s_Board___len__)
    (d_Board___eq__ : MetAt K oA_Board "__eq__" "Board.__eq__" s_Board___eq__)
    (d_Board_put : MetAt K oA_Board "put" "Board.put" s_Board_put)
    (d_Board_insert : MetAt K oA_Board "insert" "Board.insert" s_Board_insert)
    (d_Board_remove : MetAt K oA_Board "remove" "Board.remove" s_Board_remove)
    (d_Board_check_room : MetAt K oA_Board "check_room" "Board.check_room" s_Board_check_room)
    (d_Board_keep : MetAt K oA_Board "keep" "Board.keep" s_Board_keep)
    (d_Board_undo : MetAt K oA_Board "undo" "Board.undo" s_Board_undo)
    (d_Board_go_back : MetAt K oA_Board "go_back" "Board.go_back" s_Board_go_back)
    (d_Board_ring : MetAtK K oA_Board "ring" "Board.ring" s_Board_ring [("version", .non)])
    (d_CalmBoard___init__ : MetAtS K oA_CalmBoard "__init__" "CalmBoard.__init__" s_CalmBoard___init__ "/claim/cut.py")
    (d_CalmBoard_keep : MetAtS K oA_CalmBoard "keep" "CalmBoard.keep" s_CalmBoard_keep "/claim/cut.py")
    (d_CalmBoard_check_calm : MetAt K oA_CalmBoard "check_calm" "CalmBoard.check_calm" s_CalmBoard_check_calm)
    (na_Board_limits : PySem.W.findIn K (.ref oA_Board) "limits" = some none)
    (na_Board_standing : PySem.W.findIn K (.ref oA_Board) "standing" = some none)
    (na_Board_states : PySem.W.findIn K (.ref oA_Board) "states" = some none)
    (na_CalmBoard_limits : PySem.W.findIn K (.ref oA_CalmBoard) "limits" = some none)
    (na_CalmBoard_standing : PySem.W.findIn K (.ref oA_CalmBoard) "standing" = some none)
    (na_CalmBoard_states : PySem.W.findIn K (.ref oA_CalmBoard) "states" = some none)
    (z_isinstance : PySem.W.nsIn K mainGlobals "isinstance" = some none)
    (z_int : PySem.W.nsIn K mainGlobals "int" = some none)
    (z_bool : PySem.W.nsIn K mainGlobals "bool" = some none)
    (z_enumerate : PySem.W.nsIn K mainGlobals "enumerate" = some none)
    (z_tuple : PySem.W.nsIn K mainGlobals "tuple" = some none)
    (z_len : PySem.W.nsIn K mainGlobals "len" = some none)
    (z_range : PySem.W.nsIn K mainGlobals "range" = some none)
    (z_sorted : PySem.W.nsIn K mainGlobals "sorted" = some none)
    (z_abs : PySem.W.nsIn K mainGlobals "abs" = some none)
    (z_min : PySem.W.nsIn K mainGlobals "min" = some none)
    (z_max : PySem.W.nsIn K mainGlobals "max" = some none)
    (z_ValueError : PySem.W.nsIn K mainGlobals "ValueError" = some none)
    (z_LookupError : PySem.W.nsIn K mainGlobals "LookupError" = some none)
    (z_repr : PySem.W.nsIn K mainGlobals "repr" = some none)
    (z_list : PySem.W.nsIn K mainGlobals "list" = some none)
    (z_version : PySem.W.nsIn K mainGlobals "version" = some none)
    (z_super : PySem.W.nsIn K mainGlobals "super" = some none)
    (z_LIMIT : ∃ t, PySem.W.nsIn K mainGlobals "LIMIT" = some (some (.int 1000000000 t)))
    (z_MAX_LENGTH : ∃ t, PySem.W.nsIn K mainGlobals "MAX_LENGTH" = some (some (.int 24 t)))
    (z_MAX_EDITS : ∃ t, PySem.W.nsIn K mainGlobals "MAX_EDITS" = some (some (.int 60 t)))
    {c_BadEdit c_BadHeight c_BadRing c_BadText c_BadTolerance c_BadTurns c_NoIndex c_NoPlace c_NoVersion c_NotDistinct c_Rejected c_Restless c_TooLong c_BadEdits c_LastPlace c_NothingToUndo c_OutOfRange c_RingError c_TooManyEdits : Addr}
    {f1_BadEdit : Addr} {oc_BadEdit kV_BadEdit dc_BadEdit pm_BadEdit cd_BadEdit ctv_BadEdit : Value} {od_BadEdit an_BadEdit : Option Addr} {sl_BadEdit : Array (Option Value)}
    {f1_BadHeight : Addr} {oc_BadHeight kV_BadHeight dc_BadHeight pm_BadHeight cd_BadHeight ctv_BadHeight : Value} {od_BadHeight an_BadHeight : Option Addr} {sl_BadHeight : Array (Option Value)}
    {f1_BadRing : Addr} {oc_BadRing kV_BadRing dc_BadRing pm_BadRing cd_BadRing ctv_BadRing : Value} {od_BadRing an_BadRing : Option Addr} {sl_BadRing : Array (Option Value)}
    {f1_BadText : Addr} {oc_BadText kV_BadText dc_BadText pm_BadText cd_BadText ctv_BadText : Value} {od_BadText an_BadText : Option Addr} {sl_BadText : Array (Option Value)}
    {f1_BadTolerance : Addr} {oc_BadTolerance kV_BadTolerance dc_BadTolerance pm_BadTolerance cd_BadTolerance ctv_BadTolerance : Value} {od_BadTolerance an_BadTolerance : Option Addr} {sl_BadTolerance : Array (Option Value)}
    {f1_BadTurns : Addr} {oc_BadTurns kV_BadTurns dc_BadTurns pm_BadTurns cd_BadTurns ctv_BadTurns : Value} {od_BadTurns an_BadTurns : Option Addr} {sl_BadTurns : Array (Option Value)}
    {f1_NoIndex : Addr} {oc_NoIndex kV_NoIndex dc_NoIndex pm_NoIndex cd_NoIndex ctv_NoIndex : Value} {od_NoIndex an_NoIndex : Option Addr} {sl_NoIndex : Array (Option Value)}
    {f1_NoPlace : Addr} {oc_NoPlace kV_NoPlace dc_NoPlace pm_NoPlace cd_NoPlace ctv_NoPlace : Value} {od_NoPlace an_NoPlace : Option Addr} {sl_NoPlace : Array (Option Value)}
    {f1_NoVersion : Addr} {oc_NoVersion kV_NoVersion dc_NoVersion pm_NoVersion cd_NoVersion ctv_NoVersion : Value} {od_NoVersion an_NoVersion : Option Addr} {sl_NoVersion : Array (Option Value)}
    {f1_NotDistinct : Addr} {oc_NotDistinct kV_NotDistinct dc_NotDistinct pm_NotDistinct cd_NotDistinct ctv_NotDistinct : Value} {od_NotDistinct an_NotDistinct : Option Addr} {sl_NotDistinct : Array (Option Value)}
    {f1_Rejected : Addr} {oc_Rejected kV_Rejected dc_Rejected pm_Rejected cd_Rejected ctv_Rejected : Value} {od_Rejected an_Rejected : Option Addr} {sl_Rejected : Array (Option Value)}
    {f1_Restless : Addr} {oc_Restless kV_Restless dc_Restless pm_Restless cd_Restless ctv_Restless : Value} {od_Restless an_Restless : Option Addr} {sl_Restless : Array (Option Value)}
    {f1_TooLong : Addr} {oc_TooLong kV_TooLong dc_TooLong pm_TooLong cd_TooLong ctv_TooLong : Value} {od_TooLong an_TooLong : Option Addr} {sl_TooLong : Array (Option Value)}
    (ih_CalmBoard_Board___eq__ : PySem.W.findIn K (.ref oA_CalmBoard) "__eq__" = PySem.W.findIn K (.ref oA_Board) "__eq__")
    (ih_CalmBoard_Board___len__ : PySem.W.findIn K (.ref oA_CalmBoard) "__len__" = PySem.W.findIn K (.ref oA_Board) "__len__")
    (ih_CalmBoard_Board_check_room : PySem.W.findIn K (.ref oA_CalmBoard) "check_room" = PySem.W.findIn K (.ref oA_Board) "check_room")
    (ih_CalmBoard_Board_go_back : PySem.W.findIn K (.ref oA_CalmBoard) "go_back" = PySem.W.findIn K (.ref oA_Board) "go_back")
    (ih_CalmBoard_Board_insert : PySem.W.findIn K (.ref oA_CalmBoard) "insert" = PySem.W.findIn K (.ref oA_Board) "insert")
    (ih_CalmBoard_Board_put : PySem.W.findIn K (.ref oA_CalmBoard) "put" = PySem.W.findIn K (.ref oA_Board) "put")
    (ih_CalmBoard_Board_remove : PySem.W.findIn K (.ref oA_CalmBoard) "remove" = PySem.W.findIn K (.ref oA_Board) "remove")
    (ih_CalmBoard_Board_ring : PySem.W.findIn K (.ref oA_CalmBoard) "ring" = PySem.W.findIn K (.ref oA_Board) "ring")
    (ih_CalmBoard_Board_undo : PySem.W.findIn K (.ref oA_CalmBoard) "undo" = PySem.W.findIn K (.ref oA_Board) "undo")
    (ne_cls : oA_Board ≠ oA_CalmBoard)
    (xne_Board : PySem.W.findIn K (.ref oA_Board) "__ne__" = some (some (.builtin "object.__ne__")))
    (xnf_Board : ∀ n ∈ tyAll, PySem.W.notFirst K oA_Board (.type n) = true)
    (xne_CalmBoard : PySem.W.findIn K (.ref oA_CalmBoard) "__ne__" = some (some (.builtin "object.__ne__")))
    (xnf_CalmBoard : ∀ n ∈ tyAll, PySem.W.notFirst K oA_CalmBoard (.type n) = true)
    (xkt_Board : ∀ n ∈ tyAll, PySem.W.kitOne K (.type n) (.ref oA_Board) = some false)
    (sb_01 : PySem.W.subIn K (.ref oA_Board) (.ref oA_CalmBoard) = some false)
    (sb_10 : PySem.W.subIn K (.ref oA_CalmBoard) (.ref oA_Board) = some true)
    (ica_Board : PySem.W.findIn K (.ref oA_Board) "__class__" = some (some (.builtin "object.__class__")))
    (icm_Board : PySem.W.mroIn K oA_Board (.type "object") = some true)
    (ica_CalmBoard : PySem.W.findIn K (.ref oA_CalmBoard) "__class__" = some (some (.builtin "object.__class__")))
    (icm_CalmBoard : PySem.W.mroIn K oA_CalmBoard (.type "object") = some true)
    (ki_Board_Board : PySem.W.kitOne K (.ref oA_Board) (.ref oA_Board) = some true)
    (ki_CalmBoard_Board : PySem.W.kitOne K (.ref oA_CalmBoard) (.ref oA_Board) = some true)
    (icn_ : PySem.W.specialIn K (.builtin "object.__class__") "__get__" = some (some (.builtin "getset_descriptor.__get__")))
    (ict_ : PySem.W.takesIn K (.builtin "object.__class__") = some true)
    (hcx_CalmBoard : PySem.W.isClsIn K oA_CalmBoard = true)
    (sum_CalmBoard : PySem.W.mroIn K oA_CalmBoard (.ref oA_CalmBoard) = some true)
    (sup_CalmBoard___init__ : PySem.W.ks_superIn K oA_CalmBoard oA_CalmBoard "__init__" = PySem.W.findIn K (.ref oA_Board) "__init__")
    (sup_CalmBoard_keep : PySem.W.ks_superIn K oA_CalmBoard oA_CalmBoard "keep" = PySem.W.findIn K (.ref oA_Board) "keep")
    (sop_ : PySem.W.nsIn K PySem.cStatics "thirdparty.any" = some none)
    (a_BadEdit : PySem.W.nsIn K mainGlobals "BadEdit" = some (some (.ref c_BadEdit)))
    (a_BadHeight : PySem.W.nsIn K mainGlobals "BadHeight" = some (some (.ref c_BadHeight)))
    (a_BadRing : PySem.W.nsIn K mainGlobals "BadRing" = some (some (.ref c_BadRing)))
    (a_BadText : PySem.W.nsIn K mainGlobals "BadText" = some (some (.ref c_BadText)))
    (a_BadTolerance : PySem.W.nsIn K mainGlobals "BadTolerance" = some (some (.ref c_BadTolerance)))
    (a_BadTurns : PySem.W.nsIn K mainGlobals "BadTurns" = some (some (.ref c_BadTurns)))
    (a_NoIndex : PySem.W.nsIn K mainGlobals "NoIndex" = some (some (.ref c_NoIndex)))
    (a_NoPlace : PySem.W.nsIn K mainGlobals "NoPlace" = some (some (.ref c_NoPlace)))
    (a_NoVersion : PySem.W.nsIn K mainGlobals "NoVersion" = some (some (.ref c_NoVersion)))
    (a_NotDistinct : PySem.W.nsIn K mainGlobals "NotDistinct" = some (some (.ref c_NotDistinct)))
    (a_Rejected : PySem.W.nsIn K mainGlobals "Rejected" = some (some (.ref c_Rejected)))
    (a_Restless : PySem.W.nsIn K mainGlobals "Restless" = some (some (.ref c_Restless)))
    (a_TooLong : PySem.W.nsIn K mainGlobals "TooLong" = some (some (.ref c_TooLong)))
    (a_BadEdits : PySem.W.nsIn K mainGlobals "BadEdits" = some (some (.ref c_BadEdits)))
    (a_LastPlace : PySem.W.nsIn K mainGlobals "LastPlace" = some (some (.ref c_LastPlace)))
    (a_NothingToUndo : PySem.W.nsIn K mainGlobals "NothingToUndo" = some (some (.ref c_NothingToUndo)))
    (a_OutOfRange : PySem.W.nsIn K mainGlobals "OutOfRange" = some (some (.ref c_OutOfRange)))
    (a_RingError : PySem.W.nsIn K mainGlobals "RingError" = some (some (.ref c_RingError)))
    (a_TooManyEdits : PySem.W.nsIn K mainGlobals "TooManyEdits" = some (some (.ref c_TooManyEdits)))
    (hcl_BadEdit : PySem.W.isClsIn K c_BadEdit = true)
    (ga_BadEdit : PySem.W.findIn K (.ref c_BadEdit) "__getattribute__" = some (some (.builtin "BaseException.__getattribute__")))
    (gg_BadEdit : PySem.W.findIn K (.ref c_BadEdit) "__getattr__" = some none)
    (hs_BadEdit : PySem.W.subIn K (.ref c_BadEdit) (.type "BaseException") = some true)
    (ha_BadEdit : PySem.W.findIn K (.ref c_BadEdit) "__class__" = some (some (.builtin "object.__class__")))
    (hm_BadEdit : PySem.W.mroIn K c_BadEdit (.type "object") = some true)
    (ty_BadEdit : PySem.W.typeIn K (.ref c_BadEdit) = some (.type "type"))
    (kc_BadEdit : PySem.W.keepIn K (.ref c_BadEdit) = true)
    (hcl_BadHeight : PySem.W.isClsIn K c_BadHeight = true)
    (ga_BadHeight : PySem.W.findIn K (.ref c_BadHeight) "__getattribute__" = some (some (.builtin "BaseException.__getattribute__")))
    (gg_BadHeight : PySem.W.findIn K (.ref c_BadHeight) "__getattr__" = some none)
    (hs_BadHeight : PySem.W.subIn K (.ref c_BadHeight) (.type "BaseException") = some true)
    (ha_BadHeight : PySem.W.findIn K (.ref c_BadHeight) "__class__" = some (some (.builtin "object.__class__")))
    (hm_BadHeight : PySem.W.mroIn K c_BadHeight (.type "object") = some true)
    (ty_BadHeight : PySem.W.typeIn K (.ref c_BadHeight) = some (.type "type"))
    (kc_BadHeight : PySem.W.keepIn K (.ref c_BadHeight) = true)
    (hcl_BadRing : PySem.W.isClsIn K c_BadRing = true)
    (ga_BadRing : PySem.W.findIn K (.ref c_BadRing) "__getattribute__" = some (some (.builtin "BaseException.__getattribute__")))
    (gg_BadRing : PySem.W.findIn K (.ref c_BadRing) "__getattr__" = some none)
    (hs_BadRing : PySem.W.subIn K (.ref c_BadRing) (.type "BaseException") = some true)
    (ha_BadRing : PySem.W.findIn K (.ref c_BadRing) "__class__" = some (some (.builtin "object.__class__")))
    (hm_BadRing : PySem.W.mroIn K c_BadRing (.type "object") = some true)
    (ty_BadRing : PySem.W.typeIn K (.ref c_BadRing) = some (.type "type"))
    (kc_BadRing : PySem.W.keepIn K (.ref c_BadRing) = true)
    (hcl_BadText : PySem.W.isClsIn K c_BadText = true)
    (ga_BadText : PySem.W.findIn K (.ref c_BadText) "__getattribute__" = some (some (.builtin "BaseException.__getattribute__")))
    (gg_BadText : PySem.W.findIn K (.ref c_BadText) "__getattr__" = some none)
    (hs_BadText : PySem.W.subIn K (.ref c_BadText) (.type "BaseException") = some true)
    (ha_BadText : PySem.W.findIn K (.ref c_BadText) "__class__" = some (some (.builtin "object.__class__")))
    (hm_BadText : PySem.W.mroIn K c_BadText (.type "object") = some true)
    (ty_BadText : PySem.W.typeIn K (.ref c_BadText) = some (.type "type"))
    (kc_BadText : PySem.W.keepIn K (.ref c_BadText) = true)
    (hcl_BadTolerance : PySem.W.isClsIn K c_BadTolerance = true)
    (ga_BadTolerance : PySem.W.findIn K (.ref c_BadTolerance) "__getattribute__" = some (some (.builtin "BaseException.__getattribute__")))
    (gg_BadTolerance : PySem.W.findIn K (.ref c_BadTolerance) "__getattr__" = some none)
    (hs_BadTolerance : PySem.W.subIn K (.ref c_BadTolerance) (.type "BaseException") = some true)
    (ha_BadTolerance : PySem.W.findIn K (.ref c_BadTolerance) "__class__" = some (some (.builtin "object.__class__")))
    (hm_BadTolerance : PySem.W.mroIn K c_BadTolerance (.type "object") = some true)
    (ty_BadTolerance : PySem.W.typeIn K (.ref c_BadTolerance) = some (.type "type"))
    (kc_BadTolerance : PySem.W.keepIn K (.ref c_BadTolerance) = true)
    (hcl_BadTurns : PySem.W.isClsIn K c_BadTurns = true)
    (ga_BadTurns : PySem.W.findIn K (.ref c_BadTurns) "__getattribute__" = some (some (.builtin "BaseException.__getattribute__")))
    (gg_BadTurns : PySem.W.findIn K (.ref c_BadTurns) "__getattr__" = some none)
    (hs_BadTurns : PySem.W.subIn K (.ref c_BadTurns) (.type "BaseException") = some true)
    (ha_BadTurns : PySem.W.findIn K (.ref c_BadTurns) "__class__" = some (some (.builtin "object.__class__")))
    (hm_BadTurns : PySem.W.mroIn K c_BadTurns (.type "object") = some true)
    (ty_BadTurns : PySem.W.typeIn K (.ref c_BadTurns) = some (.type "type"))
    (kc_BadTurns : PySem.W.keepIn K (.ref c_BadTurns) = true)
    (hcl_NoIndex : PySem.W.isClsIn K c_NoIndex = true)
    (ga_NoIndex : PySem.W.findIn K (.ref c_NoIndex) "__getattribute__" = some (some (.builtin "BaseException.__getattribute__")))
    (gg_NoIndex : PySem.W.findIn K (.ref c_NoIndex) "__getattr__" = some none)
    (hs_NoIndex : PySem.W.subIn K (.ref c_NoIndex) (.type "BaseException") = some true)
    (ha_NoIndex : PySem.W.findIn K (.ref c_NoIndex) "__class__" = some (some (.builtin "object.__class__")))
    (hm_NoIndex : PySem.W.mroIn K c_NoIndex (.type "object") = some true)
    (ty_NoIndex : PySem.W.typeIn K (.ref c_NoIndex) = some (.type "type"))
    (kc_NoIndex : PySem.W.keepIn K (.ref c_NoIndex) = true)
    (hcl_NoPlace : PySem.W.isClsIn K c_NoPlace = true)
    (ga_NoPlace : PySem.W.findIn K (.ref c_NoPlace) "__getattribute__" = some (some (.builtin "BaseException.__getattribute__")))
    (gg_NoPlace : PySem.W.findIn K (.ref c_NoPlace) "__getattr__" = some none)
    (hs_NoPlace : PySem.W.subIn K (.ref c_NoPlace) (.type "BaseException") = some true)
    (ha_NoPlace : PySem.W.findIn K (.ref c_NoPlace) "__class__" = some (some (.builtin "object.__class__")))
    (hm_NoPlace : PySem.W.mroIn K c_NoPlace (.type "object") = some true)
    (ty_NoPlace : PySem.W.typeIn K (.ref c_NoPlace) = some (.type "type"))
    (kc_NoPlace : PySem.W.keepIn K (.ref c_NoPlace) = true)
    (hcl_NoVersion : PySem.W.isClsIn K c_NoVersion = true)
    (ga_NoVersion : PySem.W.findIn K (.ref c_NoVersion) "__getattribute__" = some (some (.builtin "BaseException.__getattribute__")))
    (gg_NoVersion : PySem.W.findIn K (.ref c_NoVersion) "__getattr__" = some none)
    (hs_NoVersion : PySem.W.subIn K (.ref c_NoVersion) (.type "BaseException") = some true)
    (ha_NoVersion : PySem.W.findIn K (.ref c_NoVersion) "__class__" = some (some (.builtin "object.__class__")))
    (hm_NoVersion : PySem.W.mroIn K c_NoVersion (.type "object") = some true)
    (ty_NoVersion : PySem.W.typeIn K (.ref c_NoVersion) = some (.type "type"))
    (kc_NoVersion : PySem.W.keepIn K (.ref c_NoVersion) = true)
    (hcl_NotDistinct : PySem.W.isClsIn K c_NotDistinct = true)
    (ga_NotDistinct : PySem.W.findIn K (.ref c_NotDistinct) "__getattribute__" = some (some (.builtin "BaseException.__getattribute__")))
    (gg_NotDistinct : PySem.W.findIn K (.ref c_NotDistinct) "__getattr__" = some none)
    (hs_NotDistinct : PySem.W.subIn K (.ref c_NotDistinct) (.type "BaseException") = some true)
    (ha_NotDistinct : PySem.W.findIn K (.ref c_NotDistinct) "__class__" = some (some (.builtin "object.__class__")))
    (hm_NotDistinct : PySem.W.mroIn K c_NotDistinct (.type "object") = some true)
    (ty_NotDistinct : PySem.W.typeIn K (.ref c_NotDistinct) = some (.type "type"))
    (kc_NotDistinct : PySem.W.keepIn K (.ref c_NotDistinct) = true)
    (hcl_Rejected : PySem.W.isClsIn K c_Rejected = true)
    (ga_Rejected : PySem.W.findIn K (.ref c_Rejected) "__getattribute__" = some (some (.builtin "BaseException.__getattribute__")))
    (gg_Rejected : PySem.W.findIn K (.ref c_Rejected) "__getattr__" = some none)
    (hs_Rejected : PySem.W.subIn K (.ref c_Rejected) (.type "BaseException") = some true)
    (ha_Rejected : PySem.W.findIn K (.ref c_Rejected) "__class__" = some (some (.builtin "object.__class__")))
    (hm_Rejected : PySem.W.mroIn K c_Rejected (.type "object") = some true)
    (ty_Rejected : PySem.W.typeIn K (.ref c_Rejected) = some (.type "type"))
    (kc_Rejected : PySem.W.keepIn K (.ref c_Rejected) = true)
    (hcl_Restless : PySem.W.isClsIn K c_Restless = true)
    (ga_Restless : PySem.W.findIn K (.ref c_Restless) "__getattribute__" = some (some (.builtin "BaseException.__getattribute__")))
    (gg_Restless : PySem.W.findIn K (.ref c_Restless) "__getattr__" = some none)
    (hs_Restless : PySem.W.subIn K (.ref c_Restless) (.type "BaseException") = some true)
    (ha_Restless : PySem.W.findIn K (.ref c_Restless) "__class__" = some (some (.builtin "object.__class__")))
    (hm_Restless : PySem.W.mroIn K c_Restless (.type "object") = some true)
    (ty_Restless : PySem.W.typeIn K (.ref c_Restless) = some (.type "type"))
    (kc_Restless : PySem.W.keepIn K (.ref c_Restless) = true)
    (hcl_TooLong : PySem.W.isClsIn K c_TooLong = true)
    (ga_TooLong : PySem.W.findIn K (.ref c_TooLong) "__getattribute__" = some (some (.builtin "BaseException.__getattribute__")))
    (gg_TooLong : PySem.W.findIn K (.ref c_TooLong) "__getattr__" = some none)
    (hs_TooLong : PySem.W.subIn K (.ref c_TooLong) (.type "BaseException") = some true)
    (ha_TooLong : PySem.W.findIn K (.ref c_TooLong) "__class__" = some (some (.builtin "object.__class__")))
    (hm_TooLong : PySem.W.mroIn K c_TooLong (.type "object") = some true)
    (ty_TooLong : PySem.W.typeIn K (.ref c_TooLong) = some (.type "type"))
    (kc_TooLong : PySem.W.keepIn K (.ref c_TooLong) = true)
    (hcl_BadEdits : PySem.W.isClsIn K c_BadEdits = true)
    (ga_BadEdits : PySem.W.findIn K (.ref c_BadEdits) "__getattribute__" = some (some (.builtin "BaseException.__getattribute__")))
    (gg_BadEdits : PySem.W.findIn K (.ref c_BadEdits) "__getattr__" = some none)
    (hs_BadEdits : PySem.W.subIn K (.ref c_BadEdits) (.type "BaseException") = some true)
    (ha_BadEdits : PySem.W.findIn K (.ref c_BadEdits) "__class__" = some (some (.builtin "object.__class__")))
    (hm_BadEdits : PySem.W.mroIn K c_BadEdits (.type "object") = some true)
    (ty_BadEdits : PySem.W.typeIn K (.ref c_BadEdits) = some (.type "type"))
    (kc_BadEdits : PySem.W.keepIn K (.ref c_BadEdits) = true)
    (hcl_LastPlace : PySem.W.isClsIn K c_LastPlace = true)
    (ga_LastPlace : PySem.W.findIn K (.ref c_LastPlace) "__getattribute__" = some (some (.builtin "BaseException.__getattribute__")))
    (gg_LastPlace : PySem.W.findIn K (.ref c_LastPlace) "__getattr__" = some none)
    (hs_LastPlace : PySem.W.subIn K (.ref c_LastPlace) (.type "BaseException") = some true)
    (ha_LastPlace : PySem.W.findIn K (.ref c_LastPlace) "__class__" = some (some (.builtin "object.__class__")))
    (hm_LastPlace : PySem.W.mroIn K c_LastPlace (.type "object") = some true)
    (ty_LastPlace : PySem.W.typeIn K (.ref c_LastPlace) = some (.type "type"))
    (kc_LastPlace : PySem.W.keepIn K (.ref c_LastPlace) = true)
    (hcl_NothingToUndo : PySem.W.isClsIn K c_NothingToUndo = true)
    (ga_NothingToUndo : PySem.W.findIn K (.ref c_NothingToUndo) "__getattribute__" = some (some (.builtin "BaseException.__getattribute__")))
    (gg_NothingToUndo : PySem.W.findIn K (.ref c_NothingToUndo) "__getattr__" = some none)
    (hs_NothingToUndo : PySem.W.subIn K (.ref c_NothingToUndo) (.type "BaseException") = some true)
    (ha_NothingToUndo : PySem.W.findIn K (.ref c_NothingToUndo) "__class__" = some (some (.builtin "object.__class__")))
    (hm_NothingToUndo : PySem.W.mroIn K c_NothingToUndo (.type "object") = some true)
    (ty_NothingToUndo : PySem.W.typeIn K (.ref c_NothingToUndo) = some (.type "type"))
    (kc_NothingToUndo : PySem.W.keepIn K (.ref c_NothingToUndo) = true)
    (hcl_OutOfRange : PySem.W.isClsIn K c_OutOfRange = true)
    (ga_OutOfRange : PySem.W.findIn K (.ref c_OutOfRange) "__getattribute__" = some (some (.builtin "BaseException.__getattribute__")))
    (gg_OutOfRange : PySem.W.findIn K (.ref c_OutOfRange) "__getattr__" = some none)
    (hs_OutOfRange : PySem.W.subIn K (.ref c_OutOfRange) (.type "BaseException") = some true)
    (ha_OutOfRange : PySem.W.findIn K (.ref c_OutOfRange) "__class__" = some (some (.builtin "object.__class__")))
    (hm_OutOfRange : PySem.W.mroIn K c_OutOfRange (.type "object") = some true)
    (ty_OutOfRange : PySem.W.typeIn K (.ref c_OutOfRange) = some (.type "type"))
    (kc_OutOfRange : PySem.W.keepIn K (.ref c_OutOfRange) = true)
    (hcl_RingError : PySem.W.isClsIn K c_RingError = true)
    (ga_RingError : PySem.W.findIn K (.ref c_RingError) "__getattribute__" = some (some (.builtin "BaseException.__getattribute__")))
    (gg_RingError : PySem.W.findIn K (.ref c_RingError) "__getattr__" = some none)
    (hs_RingError : PySem.W.subIn K (.ref c_RingError) (.type "BaseException") = some true)
    (ha_RingError : PySem.W.findIn K (.ref c_RingError) "__class__" = some (some (.builtin "object.__class__")))
    (hm_RingError : PySem.W.mroIn K c_RingError (.type "object") = some true)
    (ty_RingError : PySem.W.typeIn K (.ref c_RingError) = some (.type "type"))
    (kc_RingError : PySem.W.keepIn K (.ref c_RingError) = true)
    (hcl_TooManyEdits : PySem.W.isClsIn K c_TooManyEdits = true)
    (ga_TooManyEdits : PySem.W.findIn K (.ref c_TooManyEdits) "__getattribute__" = some (some (.builtin "BaseException.__getattribute__")))
    (gg_TooManyEdits : PySem.W.findIn K (.ref c_TooManyEdits) "__getattr__" = some none)
    (hs_TooManyEdits : PySem.W.subIn K (.ref c_TooManyEdits) (.type "BaseException") = some true)
    (ha_TooManyEdits : PySem.W.findIn K (.ref c_TooManyEdits) "__class__" = some (some (.builtin "object.__class__")))
    (hm_TooManyEdits : PySem.W.mroIn K c_TooManyEdits (.type "object") = some true)
    (ty_TooManyEdits : PySem.W.typeIn K (.ref c_TooManyEdits) = some (.type "type"))
    (kc_TooManyEdits : PySem.W.keepIn K (.ref c_TooManyEdits) = true)
    (hn_ : PySem.W.specialIn K (.builtin "object.__class__") "__get__" = some (some (.builtin "getset_descriptor.__get__")))
    (ht_ : PySem.W.takesIn K (.builtin "object.__class__") = some true)
    (xi_BadEdit : PySem.W.excInitIn K c_BadEdit [.type "ValueError", .type "Exception", .type "BaseException", .type "object"] "ValueError.__new__" = true)
    (xo_BadEdit : PySem.W.excOver K c_BadEdit [.type "ValueError", .type "Exception", .type "BaseException", .type "object"] = true)
    (sa_BadEdit : PySem.W.findIn K (.ref c_BadEdit) "__setattr__" = some (some (.builtin "object.__setattr__")))
    (n_BadEdit : PySem.W.findIn K (.ref c_BadEdit) "index" = some none)
    (i_BadEdit : PySem.W.findIn K (.ref c_BadEdit) "__init__" = some (some (.ref f1_BadEdit)))
    (y_BadEdit : PySem.W.typeIn K (.ref f1_BadEdit) = some (.type "function"))
    (l_BadEdit : K.lookup f1_BadEdit = some ⟨oc_BadEdit, od_BadEdit, .func (PySem.W.fnOf "__init__" "BadEdit.__init__" (defArgs sI_BadEdit) (defBody sI_BadEdit) (defScope sI_BadEdit) .none kV_BadEdit dc_BadEdit pm_BadEdit an_BadEdit cd_BadEdit ctv_BadEdit), sl_BadEdit⟩)
    (lc_BadEdit : PySem.W.codeIn K cd_BadEdit "BadEdit.__init__" = true)
    (lk_BadEdit : PySem.W.keepIn K (.ref f1_BadEdit) = true)
    (h_BadEdit : PySem.W.hasDictIn K c_BadEdit = true)
    (xi_BadHeight : PySem.W.excInitIn K c_BadHeight [.type "ValueError", .type "Exception", .type "BaseException", .type "object"] "ValueError.__new__" = true)
    (xo_BadHeight : PySem.W.excOver K c_BadHeight [.type "ValueError", .type "Exception", .type "BaseException", .type "object"] = true)
    (sa_BadHeight : PySem.W.findIn K (.ref c_BadHeight) "__setattr__" = some (some (.builtin "object.__setattr__")))
    (n_BadHeight : PySem.W.findIn K (.ref c_BadHeight) "value" = some none)
    (i_BadHeight : PySem.W.findIn K (.ref c_BadHeight) "__init__" = some (some (.ref f1_BadHeight)))
    (y_BadHeight : PySem.W.typeIn K (.ref f1_BadHeight) = some (.type "function"))
    (l_BadHeight : K.lookup f1_BadHeight = some ⟨oc_BadHeight, od_BadHeight, .func (PySem.W.fnOf "__init__" "BadHeight.__init__" (defArgs sI_BadHeight) (defBody sI_BadHeight) (defScope sI_BadHeight) .none kV_BadHeight dc_BadHeight pm_BadHeight an_BadHeight cd_BadHeight ctv_BadHeight), sl_BadHeight⟩)
    (lc_BadHeight : PySem.W.codeIn K cd_BadHeight "BadHeight.__init__" = true)
    (lk_BadHeight : PySem.W.keepIn K (.ref f1_BadHeight) = true)
    (h_BadHeight : PySem.W.hasDictIn K c_BadHeight = true)
    (xi_BadRing : PySem.W.excInitIn K c_BadRing [.type "ValueError", .type "Exception", .type "BaseException", .type "object"] "ValueError.__new__" = true)
    (xo_BadRing : PySem.W.excOver K c_BadRing [.type "ValueError", .type "Exception", .type "BaseException", .type "object"] = true)
    (sa_BadRing : PySem.W.findIn K (.ref c_BadRing) "__setattr__" = some (some (.builtin "object.__setattr__")))
    (n_BadRing : PySem.W.findIn K (.ref c_BadRing) "error" = some none)
    (i_BadRing : PySem.W.findIn K (.ref c_BadRing) "__init__" = some (some (.ref f1_BadRing)))
    (y_BadRing : PySem.W.typeIn K (.ref f1_BadRing) = some (.type "function"))
    (l_BadRing : K.lookup f1_BadRing = some ⟨oc_BadRing, od_BadRing, .func (PySem.W.fnOf "__init__" "BadRing.__init__" (defArgs sI_BadRing) (defBody sI_BadRing) (defScope sI_BadRing) .none kV_BadRing dc_BadRing pm_BadRing an_BadRing cd_BadRing ctv_BadRing), sl_BadRing⟩)
    (lc_BadRing : PySem.W.codeIn K cd_BadRing "BadRing.__init__" = true)
    (lk_BadRing : PySem.W.keepIn K (.ref f1_BadRing) = true)
    (h_BadRing : PySem.W.hasDictIn K c_BadRing = true)
    (xi_BadText : PySem.W.excInitIn K c_BadText [.type "ValueError", .type "Exception", .type "BaseException", .type "object"] "ValueError.__new__" = true)
    (xo_BadText : PySem.W.excOver K c_BadText [.type "ValueError", .type "Exception", .type "BaseException", .type "object"] = true)
    (sa_BadText : PySem.W.findIn K (.ref c_BadText) "__setattr__" = some (some (.builtin "object.__setattr__")))
    (n_BadText : PySem.W.findIn K (.ref c_BadText) "index" = some none)
    (i_BadText : PySem.W.findIn K (.ref c_BadText) "__init__" = some (some (.ref f1_BadText)))
    (y_BadText : PySem.W.typeIn K (.ref f1_BadText) = some (.type "function"))
    (l_BadText : K.lookup f1_BadText = some ⟨oc_BadText, od_BadText, .func (PySem.W.fnOf "__init__" "BadText.__init__" (defArgs sI_BadText) (defBody sI_BadText) (defScope sI_BadText) .none kV_BadText dc_BadText pm_BadText an_BadText cd_BadText ctv_BadText), sl_BadText⟩)
    (lc_BadText : PySem.W.codeIn K cd_BadText "BadText.__init__" = true)
    (lk_BadText : PySem.W.keepIn K (.ref f1_BadText) = true)
    (h_BadText : PySem.W.hasDictIn K c_BadText = true)
    (xi_BadTolerance : PySem.W.excInitIn K c_BadTolerance [.type "ValueError", .type "Exception", .type "BaseException", .type "object"] "ValueError.__new__" = true)
    (xo_BadTolerance : PySem.W.excOver K c_BadTolerance [.type "ValueError", .type "Exception", .type "BaseException", .type "object"] = true)
    (sa_BadTolerance : PySem.W.findIn K (.ref c_BadTolerance) "__setattr__" = some (some (.builtin "object.__setattr__")))
    (n_BadTolerance : PySem.W.findIn K (.ref c_BadTolerance) "value" = some none)
    (i_BadTolerance : PySem.W.findIn K (.ref c_BadTolerance) "__init__" = some (some (.ref f1_BadTolerance)))
    (y_BadTolerance : PySem.W.typeIn K (.ref f1_BadTolerance) = some (.type "function"))
    (l_BadTolerance : K.lookup f1_BadTolerance = some ⟨oc_BadTolerance, od_BadTolerance, .func (PySem.W.fnOf "__init__" "BadTolerance.__init__" (defArgs sI_BadTolerance) (defBody sI_BadTolerance) (defScope sI_BadTolerance) .none kV_BadTolerance dc_BadTolerance pm_BadTolerance an_BadTolerance cd_BadTolerance ctv_BadTolerance), sl_BadTolerance⟩)
    (lc_BadTolerance : PySem.W.codeIn K cd_BadTolerance "BadTolerance.__init__" = true)
    (lk_BadTolerance : PySem.W.keepIn K (.ref f1_BadTolerance) = true)
    (h_BadTolerance : PySem.W.hasDictIn K c_BadTolerance = true)
    (xi_BadTurns : PySem.W.excInitIn K c_BadTurns [.type "ValueError", .type "Exception", .type "BaseException", .type "object"] "ValueError.__new__" = true)
    (xo_BadTurns : PySem.W.excOver K c_BadTurns [.type "ValueError", .type "Exception", .type "BaseException", .type "object"] = true)
    (sa_BadTurns : PySem.W.findIn K (.ref c_BadTurns) "__setattr__" = some (some (.builtin "object.__setattr__")))
    (n_BadTurns : PySem.W.findIn K (.ref c_BadTurns) "value" = some none)
    (i_BadTurns : PySem.W.findIn K (.ref c_BadTurns) "__init__" = some (some (.ref f1_BadTurns)))
    (y_BadTurns : PySem.W.typeIn K (.ref f1_BadTurns) = some (.type "function"))
    (l_BadTurns : K.lookup f1_BadTurns = some ⟨oc_BadTurns, od_BadTurns, .func (PySem.W.fnOf "__init__" "BadTurns.__init__" (defArgs sI_BadTurns) (defBody sI_BadTurns) (defScope sI_BadTurns) .none kV_BadTurns dc_BadTurns pm_BadTurns an_BadTurns cd_BadTurns ctv_BadTurns), sl_BadTurns⟩)
    (lc_BadTurns : PySem.W.codeIn K cd_BadTurns "BadTurns.__init__" = true)
    (lk_BadTurns : PySem.W.keepIn K (.ref f1_BadTurns) = true)
    (h_BadTurns : PySem.W.hasDictIn K c_BadTurns = true)
    (xi_NoIndex : PySem.W.excInitIn K c_NoIndex [.type "LookupError", .type "Exception", .type "BaseException", .type "object"] "LookupError.__new__" = true)
    (xo_NoIndex : PySem.W.excOver K c_NoIndex [.type "LookupError", .type "Exception", .type "BaseException", .type "object"] = true)
    (sa_NoIndex : PySem.W.findIn K (.ref c_NoIndex) "__setattr__" = some (some (.builtin "object.__setattr__")))
    (n_NoIndex : PySem.W.findIn K (.ref c_NoIndex) "value" = some none)
    (i_NoIndex : PySem.W.findIn K (.ref c_NoIndex) "__init__" = some (some (.ref f1_NoIndex)))
    (y_NoIndex : PySem.W.typeIn K (.ref f1_NoIndex) = some (.type "function"))
    (l_NoIndex : K.lookup f1_NoIndex = some ⟨oc_NoIndex, od_NoIndex, .func (PySem.W.fnOf "__init__" "NoIndex.__init__" (defArgs sI_NoIndex) (defBody sI_NoIndex) (defScope sI_NoIndex) .none kV_NoIndex dc_NoIndex pm_NoIndex an_NoIndex cd_NoIndex ctv_NoIndex), sl_NoIndex⟩)
    (lc_NoIndex : PySem.W.codeIn K cd_NoIndex "NoIndex.__init__" = true)
    (lk_NoIndex : PySem.W.keepIn K (.ref f1_NoIndex) = true)
    (h_NoIndex : PySem.W.hasDictIn K c_NoIndex = true)
    (xi_NoPlace : PySem.W.excInitIn K c_NoPlace [.type "LookupError", .type "Exception", .type "BaseException", .type "object"] "LookupError.__new__" = true)
    (xo_NoPlace : PySem.W.excOver K c_NoPlace [.type "LookupError", .type "Exception", .type "BaseException", .type "object"] = true)
    (sa_NoPlace : PySem.W.findIn K (.ref c_NoPlace) "__setattr__" = some (some (.builtin "object.__setattr__")))
    (n_NoPlace : PySem.W.findIn K (.ref c_NoPlace) "value" = some none)
    (i_NoPlace : PySem.W.findIn K (.ref c_NoPlace) "__init__" = some (some (.ref f1_NoPlace)))
    (y_NoPlace : PySem.W.typeIn K (.ref f1_NoPlace) = some (.type "function"))
    (l_NoPlace : K.lookup f1_NoPlace = some ⟨oc_NoPlace, od_NoPlace, .func (PySem.W.fnOf "__init__" "NoPlace.__init__" (defArgs sI_NoPlace) (defBody sI_NoPlace) (defScope sI_NoPlace) .none kV_NoPlace dc_NoPlace pm_NoPlace an_NoPlace cd_NoPlace ctv_NoPlace), sl_NoPlace⟩)
    (lc_NoPlace : PySem.W.codeIn K cd_NoPlace "NoPlace.__init__" = true)
    (lk_NoPlace : PySem.W.keepIn K (.ref f1_NoPlace) = true)
    (h_NoPlace : PySem.W.hasDictIn K c_NoPlace = true)
    (xi_NoVersion : PySem.W.excInitIn K c_NoVersion [.type "LookupError", .type "Exception", .type "BaseException", .type "object"] "LookupError.__new__" = true)
    (xo_NoVersion : PySem.W.excOver K c_NoVersion [.type "LookupError", .type "Exception", .type "BaseException", .type "object"] = true)
    (sa_NoVersion : PySem.W.findIn K (.ref c_NoVersion) "__setattr__" = some (some (.builtin "object.__setattr__")))
    (n_NoVersion : PySem.W.findIn K (.ref c_NoVersion) "value" = some none)
    (i_NoVersion : PySem.W.findIn K (.ref c_NoVersion) "__init__" = some (some (.ref f1_NoVersion)))
    (y_NoVersion : PySem.W.typeIn K (.ref f1_NoVersion) = some (.type "function"))
    (l_NoVersion : K.lookup f1_NoVersion = some ⟨oc_NoVersion, od_NoVersion, .func (PySem.W.fnOf "__init__" "NoVersion.__init__" (defArgs sI_NoVersion) (defBody sI_NoVersion) (defScope sI_NoVersion) .none kV_NoVersion dc_NoVersion pm_NoVersion an_NoVersion cd_NoVersion ctv_NoVersion), sl_NoVersion⟩)
    (lc_NoVersion : PySem.W.codeIn K cd_NoVersion "NoVersion.__init__" = true)
    (lk_NoVersion : PySem.W.keepIn K (.ref f1_NoVersion) = true)
    (h_NoVersion : PySem.W.hasDictIn K c_NoVersion = true)
    (xi_NotDistinct : PySem.W.excInitIn K c_NotDistinct [.type "ValueError", .type "Exception", .type "BaseException", .type "object"] "ValueError.__new__" = true)
    (xo_NotDistinct : PySem.W.excOver K c_NotDistinct [.type "ValueError", .type "Exception", .type "BaseException", .type "object"] = true)
    (sa_NotDistinct : PySem.W.findIn K (.ref c_NotDistinct) "__setattr__" = some (some (.builtin "object.__setattr__")))
    (n_NotDistinct : PySem.W.findIn K (.ref c_NotDistinct) "height" = some none)
    (i_NotDistinct : PySem.W.findIn K (.ref c_NotDistinct) "__init__" = some (some (.ref f1_NotDistinct)))
    (y_NotDistinct : PySem.W.typeIn K (.ref f1_NotDistinct) = some (.type "function"))
    (l_NotDistinct : K.lookup f1_NotDistinct = some ⟨oc_NotDistinct, od_NotDistinct, .func (PySem.W.fnOf "__init__" "NotDistinct.__init__" (defArgs sI_NotDistinct) (defBody sI_NotDistinct) (defScope sI_NotDistinct) .none kV_NotDistinct dc_NotDistinct pm_NotDistinct an_NotDistinct cd_NotDistinct ctv_NotDistinct), sl_NotDistinct⟩)
    (lc_NotDistinct : PySem.W.codeIn K cd_NotDistinct "NotDistinct.__init__" = true)
    (lk_NotDistinct : PySem.W.keepIn K (.ref f1_NotDistinct) = true)
    (h_NotDistinct : PySem.W.hasDictIn K c_NotDistinct = true)
    (xi_Rejected : PySem.W.excInitIn K c_Rejected [.type "ValueError", .type "Exception", .type "BaseException", .type "object"] "ValueError.__new__" = true)
    (xo_Rejected : PySem.W.excOver K c_Rejected [.type "ValueError", .type "Exception", .type "BaseException", .type "object"] = true)
    (sa_Rejected : PySem.W.findIn K (.ref c_Rejected) "__setattr__" = some (some (.builtin "object.__setattr__")))
    (n_Rejected : PySem.W.findIn K (.ref c_Rejected) "index" = some none)
    (i_Rejected : PySem.W.findIn K (.ref c_Rejected) "__init__" = some (some (.ref f1_Rejected)))
    (y_Rejected : PySem.W.typeIn K (.ref f1_Rejected) = some (.type "function"))
    (l_Rejected : K.lookup f1_Rejected = some ⟨oc_Rejected, od_Rejected, .func (PySem.W.fnOf "__init__" "Rejected.__init__" (defArgs sI_Rejected) (defBody sI_Rejected) (defScope sI_Rejected) .none kV_Rejected dc_Rejected pm_Rejected an_Rejected cd_Rejected ctv_Rejected), sl_Rejected⟩)
    (lc_Rejected : PySem.W.codeIn K cd_Rejected "Rejected.__init__" = true)
    (lk_Rejected : PySem.W.keepIn K (.ref f1_Rejected) = true)
    (h_Rejected : PySem.W.hasDictIn K c_Rejected = true)
    (xi_Restless : PySem.W.excInitIn K c_Restless [.type "ValueError", .type "Exception", .type "BaseException", .type "object"] "ValueError.__new__" = true)
    (xo_Restless : PySem.W.excOver K c_Restless [.type "ValueError", .type "Exception", .type "BaseException", .type "object"] = true)
    (sa_Restless : PySem.W.findIn K (.ref c_Restless) "__setattr__" = some (some (.builtin "object.__setattr__")))
    (n_Restless : PySem.W.findIn K (.ref c_Restless) "number" = some none)
    (i_Restless : PySem.W.findIn K (.ref c_Restless) "__init__" = some (some (.ref f1_Restless)))
    (y_Restless : PySem.W.typeIn K (.ref f1_Restless) = some (.type "function"))
    (l_Restless : K.lookup f1_Restless = some ⟨oc_Restless, od_Restless, .func (PySem.W.fnOf "__init__" "Restless.__init__" (defArgs sI_Restless) (defBody sI_Restless) (defScope sI_Restless) .none kV_Restless dc_Restless pm_Restless an_Restless cd_Restless ctv_Restless), sl_Restless⟩)
    (lc_Restless : PySem.W.codeIn K cd_Restless "Restless.__init__" = true)
    (lk_Restless : PySem.W.keepIn K (.ref f1_Restless) = true)
    (h_Restless : PySem.W.hasDictIn K c_Restless = true)
    (xi_TooLong : PySem.W.excInitIn K c_TooLong [.type "ValueError", .type "Exception", .type "BaseException", .type "object"] "ValueError.__new__" = true)
    (xo_TooLong : PySem.W.excOver K c_TooLong [.type "ValueError", .type "Exception", .type "BaseException", .type "object"] = true)
    (sa_TooLong : PySem.W.findIn K (.ref c_TooLong) "__setattr__" = some (some (.builtin "object.__setattr__")))
    (n_TooLong : PySem.W.findIn K (.ref c_TooLong) "bound" = some none)
    (i_TooLong : PySem.W.findIn K (.ref c_TooLong) "__init__" = some (some (.ref f1_TooLong)))
    (y_TooLong : PySem.W.typeIn K (.ref f1_TooLong) = some (.type "function"))
    (l_TooLong : K.lookup f1_TooLong = some ⟨oc_TooLong, od_TooLong, .func (PySem.W.fnOf "__init__" "TooLong.__init__" (defArgs sI_TooLong) (defBody sI_TooLong) (defScope sI_TooLong) .none kV_TooLong dc_TooLong pm_TooLong an_TooLong cd_TooLong ctv_TooLong), sl_TooLong⟩)
    (lc_TooLong : PySem.W.codeIn K cd_TooLong "TooLong.__init__" = true)
    (lk_TooLong : PySem.W.keepIn K (.ref f1_TooLong) = true)
    (h_TooLong : PySem.W.hasDictIn K c_TooLong = true)
    (q_BadEdits : PySem.W.excIn K c_BadEdits [.type "ValueError", .type "Exception", .type "BaseException", .type "object"] "ValueError.__new__" = true)
    (q_LastPlace : PySem.W.excIn K c_LastPlace [.type "ValueError", .type "Exception", .type "BaseException", .type "object"] "ValueError.__new__" = true)
    (q_NothingToUndo : PySem.W.excIn K c_NothingToUndo [.type "ValueError", .type "Exception", .type "BaseException", .type "object"] "ValueError.__new__" = true)
    (q_OutOfRange : PySem.W.excIn K c_OutOfRange [.type "ValueError", .type "Exception", .type "BaseException", .type "object"] "ValueError.__new__" = true)
    (q_RingError : PySem.W.excIn K c_RingError [.type "ValueError", .type "Exception", .type "BaseException", .type "object"] "ValueError.__new__" = true)
    (q_TooManyEdits : PySem.W.excIn K c_TooManyEdits [.type "ValueError", .type "Exception", .type "BaseException", .type "object"] "ValueError.__new__" = true)
    (kv_BadEdit : [c_LastPlace, c_OutOfRange, c_TooManyEdits, c_NothingToUndo, c_BadEdits, c_NotDistinct, c_TooLong, c_BadRing, c_BadHeight, c_BadTolerance, c_BadTurns, c_Restless, c_BadEdit, c_Rejected, c_BadText, c_NoIndex, c_NoPlace, c_NoVersion, c_RingError].map (fun D => PySem.W.kitOne K (.ref D) (.ref c_BadEdit)) = bs_BadEdit.map some)
    (kv_BadEdits : [c_LastPlace, c_OutOfRange, c_TooManyEdits, c_NothingToUndo, c_BadEdits, c_NotDistinct, c_TooLong, c_BadRing, c_BadHeight, c_BadTolerance, c_BadTurns, c_Restless, c_BadEdit, c_Rejected, c_BadText, c_NoIndex, c_NoPlace, c_NoVersion, c_RingError].map (fun D => PySem.W.kitOne K (.ref D) (.ref c_BadEdits)) = bs_BadEdits.map some)
    (kv_BadHeight : [c_LastPlace, c_OutOfRange, c_TooManyEdits, c_NothingToUndo, c_BadEdits, c_NotDistinct, c_TooLong, c_BadRing, c_BadHeight, c_BadTolerance, c_BadTurns, c_Restless, c_BadEdit, c_Rejected, c_BadText, c_NoIndex, c_NoPlace, c_NoVersion, c_RingError].map (fun D => PySem.W.kitOne K (.ref D) (.ref c_BadHeight)) = bs_BadHeight.map some)
    (kv_BadRing : [c_LastPlace, c_OutOfRange, c_TooManyEdits, c_NothingToUndo, c_BadEdits, c_NotDistinct, c_TooLong, c_BadRing, c_BadHeight, c_BadTolerance, c_BadTurns, c_Restless, c_BadEdit, c_Rejected, c_BadText, c_NoIndex, c_NoPlace, c_NoVersion, c_RingError].map (fun D => PySem.W.kitOne K (.ref D) (.ref c_BadRing)) = bs_BadRing.map some)
    (kv_BadText : [c_LastPlace, c_OutOfRange, c_TooManyEdits, c_NothingToUndo, c_BadEdits, c_NotDistinct, c_TooLong, c_BadRing, c_BadHeight, c_BadTolerance, c_BadTurns, c_Restless, c_BadEdit, c_Rejected, c_BadText, c_NoIndex, c_NoPlace, c_NoVersion, c_RingError].map (fun D => PySem.W.kitOne K (.ref D) (.ref c_BadText)) = bs_BadText.map some)
    (kv_BadTolerance : [c_LastPlace, c_OutOfRange, c_TooManyEdits, c_NothingToUndo, c_BadEdits, c_NotDistinct, c_TooLong, c_BadRing, c_BadHeight, c_BadTolerance, c_BadTurns, c_Restless, c_BadEdit, c_Rejected, c_BadText, c_NoIndex, c_NoPlace, c_NoVersion, c_RingError].map (fun D => PySem.W.kitOne K (.ref D) (.ref c_BadTolerance)) = bs_BadTolerance.map some)
    (kv_BadTurns : [c_LastPlace, c_OutOfRange, c_TooManyEdits, c_NothingToUndo, c_BadEdits, c_NotDistinct, c_TooLong, c_BadRing, c_BadHeight, c_BadTolerance, c_BadTurns, c_Restless, c_BadEdit, c_Rejected, c_BadText, c_NoIndex, c_NoPlace, c_NoVersion, c_RingError].map (fun D => PySem.W.kitOne K (.ref D) (.ref c_BadTurns)) = bs_BadTurns.map some)
    (kv_LastPlace : [c_LastPlace, c_OutOfRange, c_TooManyEdits, c_NothingToUndo, c_BadEdits, c_NotDistinct, c_TooLong, c_BadRing, c_BadHeight, c_BadTolerance, c_BadTurns, c_Restless, c_BadEdit, c_Rejected, c_BadText, c_NoIndex, c_NoPlace, c_NoVersion, c_RingError].map (fun D => PySem.W.kitOne K (.ref D) (.ref c_LastPlace)) = bs_LastPlace.map some)
    (kv_LookupError : [c_LastPlace, c_OutOfRange, c_TooManyEdits, c_NothingToUndo, c_BadEdits, c_NotDistinct, c_TooLong, c_BadRing, c_BadHeight, c_BadTolerance, c_BadTurns, c_Restless, c_BadEdit, c_Rejected, c_BadText, c_NoIndex, c_NoPlace, c_NoVersion, c_RingError].map (fun D => PySem.W.kitOne K (.ref D) (.type "LookupError")) = bs_LookupError.map some)
    (kv_NoIndex : [c_LastPlace, c_OutOfRange, c_TooManyEdits, c_NothingToUndo, c_BadEdits, c_NotDistinct, c_TooLong, c_BadRing, c_BadHeight, c_BadTolerance, c_BadTurns, c_Restless, c_BadEdit, c_Rejected, c_BadText, c_NoIndex, c_NoPlace, c_NoVersion, c_RingError].map (fun D => PySem.W.kitOne K (.ref D) (.ref c_NoIndex)) = bs_NoIndex.map some)
    (kv_NoPlace : [c_LastPlace, c_OutOfRange, c_TooManyEdits, c_NothingToUndo, c_BadEdits, c_NotDistinct, c_TooLong, c_BadRing, c_BadHeight, c_BadTolerance, c_BadTurns, c_Restless, c_BadEdit, c_Rejected, c_BadText, c_NoIndex, c_NoPlace, c_NoVersion, c_RingError].map (fun D => PySem.W.kitOne K (.ref D) (.ref c_NoPlace)) = bs_NoPlace.map some)
    (kv_NoVersion : [c_LastPlace, c_OutOfRange, c_TooManyEdits, c_NothingToUndo, c_BadEdits, c_NotDistinct, c_TooLong, c_BadRing, c_BadHeight, c_BadTolerance, c_BadTurns, c_Restless, c_BadEdit, c_Rejected, c_BadText, c_NoIndex, c_NoPlace, c_NoVersion, c_RingError].map (fun D => PySem.W.kitOne K (.ref D) (.ref c_NoVersion)) = bs_NoVersion.map some)
    (kv_NotDistinct : [c_LastPlace, c_OutOfRange, c_TooManyEdits, c_NothingToUndo, c_BadEdits, c_NotDistinct, c_TooLong, c_BadRing, c_BadHeight, c_BadTolerance, c_BadTurns, c_Restless, c_BadEdit, c_Rejected, c_BadText, c_NoIndex, c_NoPlace, c_NoVersion, c_RingError].map (fun D => PySem.W.kitOne K (.ref D) (.ref c_NotDistinct)) = bs_NotDistinct.map some)
    (kv_NothingToUndo : [c_LastPlace, c_OutOfRange, c_TooManyEdits, c_NothingToUndo, c_BadEdits, c_NotDistinct, c_TooLong, c_BadRing, c_BadHeight, c_BadTolerance, c_BadTurns, c_Restless, c_BadEdit, c_Rejected, c_BadText, c_NoIndex, c_NoPlace, c_NoVersion, c_RingError].map (fun D => PySem.W.kitOne K (.ref D) (.ref c_NothingToUndo)) = bs_NothingToUndo.map some)
    (kv_OutOfRange : [c_LastPlace, c_OutOfRange, c_TooManyEdits, c_NothingToUndo, c_BadEdits, c_NotDistinct, c_TooLong, c_BadRing, c_BadHeight, c_BadTolerance, c_BadTurns, c_Restless, c_BadEdit, c_Rejected, c_BadText, c_NoIndex, c_NoPlace, c_NoVersion, c_RingError].map (fun D => PySem.W.kitOne K (.ref D) (.ref c_OutOfRange)) = bs_OutOfRange.map some)
    (kv_Rejected : [c_LastPlace, c_OutOfRange, c_TooManyEdits, c_NothingToUndo, c_BadEdits, c_NotDistinct, c_TooLong, c_BadRing, c_BadHeight, c_BadTolerance, c_BadTurns, c_Restless, c_BadEdit, c_Rejected, c_BadText, c_NoIndex, c_NoPlace, c_NoVersion, c_RingError].map (fun D => PySem.W.kitOne K (.ref D) (.ref c_Rejected)) = bs_Rejected.map some)
    (kv_Restless : [c_LastPlace, c_OutOfRange, c_TooManyEdits, c_NothingToUndo, c_BadEdits, c_NotDistinct, c_TooLong, c_BadRing, c_BadHeight, c_BadTolerance, c_BadTurns, c_Restless, c_BadEdit, c_Rejected, c_BadText, c_NoIndex, c_NoPlace, c_NoVersion, c_RingError].map (fun D => PySem.W.kitOne K (.ref D) (.ref c_Restless)) = bs_Restless.map some)
    (kv_RingError : [c_LastPlace, c_OutOfRange, c_TooManyEdits, c_NothingToUndo, c_BadEdits, c_NotDistinct, c_TooLong, c_BadRing, c_BadHeight, c_BadTolerance, c_BadTurns, c_Restless, c_BadEdit, c_Rejected, c_BadText, c_NoIndex, c_NoPlace, c_NoVersion, c_RingError].map (fun D => PySem.W.kitOne K (.ref D) (.ref c_RingError)) = bs_RingError.map some)
    (kv_TooLong : [c_LastPlace, c_OutOfRange, c_TooManyEdits, c_NothingToUndo, c_BadEdits, c_NotDistinct, c_TooLong, c_BadRing, c_BadHeight, c_BadTolerance, c_BadTurns, c_Restless, c_BadEdit, c_Rejected, c_BadText, c_NoIndex, c_NoPlace, c_NoVersion, c_RingError].map (fun D => PySem.W.kitOne K (.ref D) (.ref c_TooLong)) = bs_TooLong.map some)
    (kv_TooManyEdits : [c_LastPlace, c_OutOfRange, c_TooManyEdits, c_NothingToUndo, c_BadEdits, c_NotDistinct, c_TooLong, c_BadRing, c_BadHeight, c_BadTolerance, c_BadTurns, c_Restless, c_BadEdit, c_Rejected, c_BadText, c_NoIndex, c_NoPlace, c_NoVersion, c_RingError].map (fun D => PySem.W.kitOne K (.ref D) (.ref c_TooManyEdits)) = bs_TooManyEdits.map some)
    (kv_ValueError : [c_LastPlace, c_OutOfRange, c_TooManyEdits, c_NothingToUndo, c_BadEdits, c_NotDistinct, c_TooLong, c_BadRing, c_BadHeight, c_BadTolerance, c_BadTurns, c_Restless, c_BadEdit, c_Rejected, c_BadText, c_NoIndex, c_NoPlace, c_NoVersion, c_RingError].map (fun D => PySem.W.kitOne K (.ref D) (.type "ValueError")) = bs_ValueError.map some)
    : ∃ fd : FuncData, (∀ (s : Shared) (u : Value), BindsTo s fd ⟨[u], []⟩ [("_law_script", u)]) ∧
      ∀ base : Heap, K.In base → base.Ns mainGlobals mg → FnG PySem.Challenge.rw_ringswings_k61_board_equality_and_errors.prog w K mg base CX0 13 fa fd ["_law_script"] (spLaw K) := by
  obtain ⟨f_is_number, fd_is_number, F_is_number, g_is_number, _⟩ := d_is_number.get X G
  have b_is_number := F_is_number.binds (ps := ["value"]) fun _ _ _ _ _ _ us hl => match us, hl with | [_], _ => rfl
  obtain ⟨f_is_height, fd_is_height, F_is_height, g_is_height, _⟩ := d_is_height.get X G
  have b_is_height := F_is_height.binds (ps := ["value"]) fun _ _ _ _ _ _ us hl => match us, hl with | [_], _ => rfl
  obtain ⟨f_is_tolerance, fd_is_tolerance, F_is_tolerance, g_is_tolerance, _⟩ := d_is_tolerance.get X G
  have b_is_tolerance := F_is_tolerance.binds (ps := ["value"]) fun _ _ _ _ _ _ us hl => match us, hl with | [_], _ => rfl
  obtain ⟨f_ring_error, fd_ring_error, F_ring_error, g_ring_error, _⟩ := d_ring_error.get X G
  have b_ring_error := F_ring_error.binds (ps := ["value"]) fun _ _ _ _ _ _ us hl => match us, hl with | [_], _ => rfl
  obtain ⟨f_turning_places, fd_turning_places, F_turning_places, g_turning_places, _⟩ := d_turning_places.get X G
  have b_turning_places := F_turning_places.binds (ps := ["ring"]) fun _ _ _ _ _ _ us hl => match us, hl with | [_], _ => rfl
  obtain ⟨f_is_turn, fd_is_turn, F_is_turn, g_is_turn, _⟩ := d_is_turn.get X G
  have b_is_turn := F_is_turn.binds (ps := ["ring", "place"]) fun _ _ _ _ _ _ us hl => match us, hl with | [_, _], _ => rfl
  obtain ⟨f_next_other_height, fd_next_other_height, F_next_other_height, g_next_other_height, _⟩ := d_next_other_height.get X G
  have b_next_other_height := F_next_other_height.binds (ps := ["ring", "place"]) fun _ _ _ _ _ _ us hl => match us, hl with | [_, _], _ => rfl
  obtain ⟨f_heights_after, fd_heights_after, F_heights_after, g_heights_after, _⟩ := d_heights_after.get X G
  have b_heights_after := F_heights_after.binds (ps := ["ring", "place"]) fun _ _ _ _ _ _ us hl => match us, hl with | [_, _], _ => rfl
  obtain ⟨f_swings_of, fd_swings_of, F_swings_of, g_swings_of, _⟩ := d_swings_of.get X G
  have b_swings_of := F_swings_of.binds (ps := ["ring"]) fun _ _ _ _ _ _ us hl => match us, hl with | [_], _ => rfl
  obtain ⟨f_find_removal, fd_find_removal, F_find_removal, g_find_removal, _⟩ := d_find_removal.get X G
  have b_find_removal := F_find_removal.binds (ps := ["ring"]) fun _ _ _ _ _ _ us hl => match us, hl with | [_], _ => rfl
  obtain ⟨f_flattest_pair, fd_flattest_pair, F_flattest_pair, g_flattest_pair, _⟩ := d_flattest_pair.get X G
  have b_flattest_pair := F_flattest_pair.binds (ps := ["ring", "left"]) fun _ _ _ _ _ _ us hl => match us, hl with | [_, _], _ => rfl
  obtain ⟨f_valley_first, fd_valley_first, F_valley_first, g_valley_first, _⟩ := d_valley_first.get X G
  have b_valley_first := F_valley_first.binds (ps := ["ring", "turn", "neighbour"]) fun _ _ _ _ _ _ us hl => match us, hl with | [_, _, _], _ => rfl
  obtain ⟨f_without_pair, fd_without_pair, F_without_pair, g_without_pair, _⟩ := d_without_pair.get X G
  have b_without_pair := F_without_pair.binds (ps := ["left", "pair"]) fun _ _ _ _ _ _ us hl => match us, hl with | [_, _], _ => rfl
  obtain ⟨f_set_height, fd_set_height, F_set_height, g_set_height, _⟩ := d_set_height.get X G
  have b_set_height := F_set_height.binds (ps := ["ring", "place", "height"]) fun _ _ _ _ _ _ us hl => match us, hl with | [_, _, _], _ => rfl
  obtain ⟨f_insert_height, fd_insert_height, F_insert_height, g_insert_height, _⟩ := d_insert_height.get X G
  have b_insert_height := F_insert_height.binds (ps := ["ring", "place", "height"]) fun _ _ _ _ _ _ us hl => match us, hl with | [_, _, _], _ => rfl
  obtain ⟨f_remove_place, fd_remove_place, F_remove_place, g_remove_place, _⟩ := d_remove_place.get X G
  have b_remove_place := F_remove_place.binds (ps := ["ring", "place"]) fun _ _ _ _ _ _ us hl => match us, hl with | [_, _], _ => rfl
  obtain ⟨f_swing_ranges, fd_swing_ranges, F_swing_ranges, g_swing_ranges, _⟩ := d_swing_ranges.get X G
  have b_swing_ranges := F_swing_ranges.binds (ps := ["ring"]) fun _ _ _ _ _ _ us hl => match us, hl with | [_], _ => rfl
  obtain ⟨f_least_turns, fd_least_turns, F_least_turns, g_least_turns, _⟩ := d_least_turns.get X G
  have b_least_turns := F_least_turns.binds (ps := ["ring", "tolerance"]) fun _ _ _ _ _ _ us hl => match us, hl with | [_, _], _ => rfl
  obtain ⟨f_check_place, fd_check_place, F_check_place, g_check_place, _⟩ := d_check_place.get X G
  have b_check_place := F_check_place.binds (ps := ["value", "count"]) fun _ _ _ _ _ _ us hl => match us, hl with | [_, _], _ => rfl
  obtain ⟨f_check_height, fd_check_height, F_check_height, g_check_height, _⟩ := d_check_height.get X G
  have b_check_height := F_check_height.binds (ps := ["value"]) fun _ _ _ _ _ _ us hl => match us, hl with | [_], _ => rfl
  obtain ⟨f_check_tolerance, fd_check_tolerance, F_check_tolerance, g_check_tolerance, _⟩ := d_check_tolerance.get X G
  have b_check_tolerance := F_check_tolerance.binds (ps := ["value"]) fun _ _ _ _ _ _ us hl => match us, hl with | [_], _ => rfl
  obtain ⟨f__law_deck, fd__law_deck, F__law_deck, g__law_deck, _⟩ := d__law_deck.get X G
  have b__law_deck := F__law_deck.binds (ps := ["_law_script"]) fun _ _ _ _ _ _ us hl => match us, hl with | [_], _ => rfl
  obtain ⟨f__law_draw, fd__law_draw, F__law_draw, g__law_draw, _⟩ := d__law_draw.get X G
  have b__law_draw := F__law_draw.binds (ps := ["_law_deck_here", "_law_many"]) fun _ _ _ _ _ _ us hl => match us, hl with | [_, _], _ => rfl
  obtain ⟨f__law_ring, fd__law_ring, F__law_ring, g__law_ring, _⟩ := d__law_ring.get X G
  have b__law_ring := F__law_ring.binds (ps := ["_law_deck_here", "_law_most"]) fun _ _ _ _ _ _ us hl => match us, hl with | [_, _], _ => rfl
  obtain ⟨f__law_after, fd__law_after, F__law_after, g__law_after, _⟩ := d__law_after.get X G
  have b__law_after := F__law_after.binds (ps := ["_law_ring_here", "_law_edit_here"]) fun _ _ _ _ _ _ us hl => match us, hl with | [_, _], _ => rfl
  obtain ⟨f__law_edit, fd__law_edit, F__law_edit, g__law_edit, _⟩ := d__law_edit.get X G
  have b__law_edit := F__law_edit.binds (ps := ["_law_deck_here", "_law_ring_here"]) fun _ _ _ _ _ _ us hl => match us, hl with | [_, _], _ => rfl
  obtain ⟨f__law_do, fd__law_do, F__law_do, g__law_do, _⟩ := d__law_do.get X G
  have b__law_do := F__law_do.binds (ps := ["_law_table", "_law_edit_here"]) fun _ _ _ _ _ _ us hl => match us, hl with | [_, _], _ => rfl
  obtain ⟨f__law_flags, fd__law_flags, F__law_flags, g__law_flags, _⟩ := d__law_flags.get X G
  have b__law_flags := F__law_flags.binds (ps := ["_law_e"]) fun _ _ _ _ _ _ us hl => match us, hl with | [_], _ => rfl
  obtain ⟨f__law_errors_right, fd__law_errors_right, F__law_errors_right, g__law_errors_right, _⟩ := d__law_errors_right.get X G
  have b__law_errors_right := F__law_errors_right.binds (ps := ["_law_value"]) fun _ _ _ _ _ _ us hl => match us, hl with | [_], _ => rfl
  obtain ⟨f__law_pairs_right, fd__law_pairs_right, F__law_pairs_right, g__law_pairs_right, _⟩ := d__law_pairs_right.get X G
  have b__law_pairs_right := F__law_pairs_right.binds (ps := ["_law_ring_here", "_law_other"]) fun _ _ _ _ _ _ us hl => match us, hl with | [_, _], _ => rfl
  obtain ⟨f__law_new, fd__law_new, F__law_new, g__law_new, _⟩ := d__law_new.get X G
  have b__law_new := F__law_new.binds (ps := ["_law_ring_here", "_law_is_calm"]) fun _ _ _ _ _ _ us hl => match us, hl with | [_, _], _ => rfl
  obtain ⟨f_law, fd_law, F_law, g_law, kV, dc, pm, an, cd, ct, efd⟩ := d_law.get X G
  have b_law := F_law.binds (ps := ["_law_script"]) fun _ _ _ _ _ _ us hl => match us, hl with | [_], _ => rfl
  obtain ⟨f_Board___init__, fd_Board___init__, F_Board___init__, mt_Board___init__⟩ := d_Board___init__.get
  have b_Board___init__ := F_Board___init__.binds (ps := ["self", "ring"]) fun _ _ _ _ _ _ us hl => match us, hl with | [_, _], _ => rfl
  obtain ⟨f_Board___len__, fd_Board___len__, F_Board___len__, mt_Board___len__⟩ := d_Board___len__.get
  have b_Board___len__ := F_Board___len__.binds (ps := ["self"]) fun _ _ _ _ _ _ us hl => match us, hl with | [_], _ => rfl
  obtain ⟨f_Board___eq__, fd_Board___eq__, F_Board___eq__, mt_Board___eq__⟩ := d_Board___eq__.get
  have b_Board___eq__ := F_Board___eq__.binds (ps := ["self", "other"]) fun _ _ _ _ _ _ us hl => match us, hl with | [_, _], _ => rfl
  obtain ⟨f_Board_put, fd_Board_put, F_Board_put, mt_Board_put⟩ := d_Board_put.get
  have b_Board_put := F_Board_put.binds (ps := ["self", "place", "height"]) fun _ _ _ _ _ _ us hl => match us, hl with | [_, _, _], _ => rfl
  obtain ⟨f_Board_insert, fd_Board_insert, F_Board_insert, mt_Board_insert⟩ := d_Board_insert.get
  have b_Board_insert := F_Board_insert.binds (ps := ["self", "place", "height"]) fun _ _ _ _ _ _ us hl => match us, hl with | [_, _, _], _ => rfl
  obtain ⟨f_Board_remove, fd_Board_remove, F_Board_remove, mt_Board_remove⟩ := d_Board_remove.get
  have b_Board_remove := F_Board_remove.binds (ps := ["self", "place"]) fun _ _ _ _ _ _ us hl => match us, hl with | [_, _], _ => rfl
  obtain ⟨f_Board_check_room, fd_Board_check_room, F_Board_check_room, mt_Board_check_room⟩ := d_Board_check_room.get
  have b_Board_check_room := F_Board_check_room.binds (ps := ["self"]) fun _ _ _ _ _ _ us hl => match us, hl with | [_], _ => rfl
  obtain ⟨f_Board_keep, fd_Board_keep, F_Board_keep, mt_Board_keep⟩ := d_Board_keep.get
  have b_Board_keep := F_Board_keep.binds (ps := ["self", "edit", "ring"]) fun _ _ _ _ _ _ us hl => match us, hl with | [_, _, _], _ => rfl
  obtain ⟨f_Board_undo, fd_Board_undo, F_Board_undo, mt_Board_undo⟩ := d_Board_undo.get
  have b_Board_undo := F_Board_undo.binds (ps := ["self"]) fun _ _ _ _ _ _ us hl => match us, hl with | [_], _ => rfl
  obtain ⟨f_Board_go_back, fd_Board_go_back, F_Board_go_back, mt_Board_go_back⟩ := d_Board_go_back.get
  have b_Board_go_back := F_Board_go_back.binds (ps := ["self", "version"]) fun _ _ _ _ _ _ us hl => match us, hl with | [_, _], _ => rfl
  obtain ⟨f_Board_ring, fd_Board_ring, F_Board_ring, mt_Board_ring, FD_Board_ring⟩ := d_Board_ring.get
  obtain ⟨f_CalmBoard___init__, fd_CalmBoard___init__, F_CalmBoard___init__, mt_CalmBoard___init__⟩ := d_CalmBoard___init__.get
  have b_CalmBoard___init__ := F_CalmBoard___init__.binds (ps := ["self", "ring", "tolerance", "turns"]) fun _ _ _ _ _ _ _ us hl => match us, hl with | [_, _, _, _], _ => rfl
  obtain ⟨f_CalmBoard_keep, fd_CalmBoard_keep, F_CalmBoard_keep, mt_CalmBoard_keep⟩ := d_CalmBoard_keep.get
  have b_CalmBoard_keep := F_CalmBoard_keep.binds (ps := ["self", "edit", "ring"]) fun _ _ _ _ _ _ _ us hl => match us, hl with | [_, _, _], _ => rfl
  obtain ⟨f_CalmBoard_check_calm, fd_CalmBoard_check_calm, F_CalmBoard_check_calm, mt_CalmBoard_check_calm⟩ := d_CalmBoard_check_calm.get
  have b_CalmBoard_check_calm := F_CalmBoard_check_calm.binds (ps := ["self", "ring"]) fun _ _ _ _ _ _ us hl => match us, hl with | [_, _], _ => rfl
  have bk_Board_ring_0 := MBn.kwTail (ps := ["self", "version"]) (ks := []) FD_Board_ring [("version", .non)] (fun q h => h) (by decide) rfl fun _ _ _ _ _ _ _ ws mv hl hm => match ws, mv, hl, hm with | [], [_], _, _ => ⟨_, _, _, _, _, _, rfl, rfl, rfl⟩
  obtain ⟨t_LIMIT, z_LIMIT⟩ := z_LIMIT
  obtain ⟨t_MAX_LENGTH, z_MAX_LENGTH⟩ := z_MAX_LENGTH
  obtain ⟨t_MAX_EDITS, z_MAX_EDITS⟩ := z_MAX_EDITS
  let T : Tx K mg := ⟨f_is_number, fd_is_number, F_is_number, b_is_number, g_is_number, f_is_height, fd_is_height, F_is_height, b_is_height, g_is_height, f_is_tolerance, fd_is_tolerance, F_is_tolerance, b_is_tolerance, g_is_tolerance, f_ring_error, fd_ring_error, F_ring_error, b_ring_error, g_ring_error, f_turning_places, fd_turning_places, F_turning_places, b_turning_places, g_turning_places, f_is_turn, fd_is_turn, F_is_turn, b_is_turn, g_is_turn, f_next_other_height, fd_next_other_height, F_next_other_height, b_next_other_height, g_next_other_height, f_heights_after, fd_heights_after, F_heights_after, b_heights_after, g_heights_after, f_swings_of, fd_swings_of, F_swings_of, b_swings_of, g_swings_of, f_find_removal, fd_find_removal, F_find_removal, b_find_removal, g_find_removal, f_flattest_pair, fd_flattest_pair, F_flattest_pair, b_flattest_pair, g_flattest_pair, f_valley_first, fd_valley_first, F_valley_first, b_valley_first, g_valley_first, f_without_pair, fd_without_pair, F_without_pair, b_without_pair, g_without_pair, f_set_height, fd_set_height, F_set_height, b_set_height, g_set_height, f_insert_height, fd_insert_height, F_insert_height, b_insert_height, g_insert_height, f_remove_place, fd_remove_place, F_remove_place, b_remove_place, g_remove_place, f_swing_ranges, fd_swing_ranges, F_swing_ranges, b_swing_ranges, g_swing_ranges, f_least_turns, fd_least_turns, F_least_turns, b_least_turns, g_least_turns, f_check_place, fd_check_place, F_check_place, b_check_place, g_check_place, f_check_height, fd_check_height, F_check_height, b_check_height, g_check_height, f_check_tolerance, fd_check_tolerance, F_check_tolerance, b_check_tolerance, g_check_tolerance, f__law_deck, fd__law_deck, F__law_deck, b__law_deck, g__law_deck, f__law_draw, fd__law_draw, F__law_draw, b__law_draw, g__law_draw, f__law_ring, fd__law_ring, F__law_ring, b__law_ring, g__law_ring, f__law_after, fd__law_after, F__law_after, b__law_after, g__law_after, f__law_edit, fd__law_edit, F__law_edit, b__law_edit, g__law_edit, f__law_do, fd__law_do, F__law_do, b__law_do, g__law_do, f__law_flags, fd__law_flags, F__law_flags, b__law_flags, g__law_flags, f__law_errors_right, fd__law_errors_right, F__law_errors_right, b__law_errors_right, g__law_errors_right, f__law_pairs_right, fd__law_pairs_right, F__law_pairs_right, b__law_pairs_right, g__law_pairs_right, f__law_new, fd__law_new, F__law_new, b__law_new, g__law_new, f_law, fd_law, F_law, b_law, g_law, oA_Board, oc_Board, PySem.W.mg_of X G oc_Board.a, oA_CalmBoard, oc_CalmBoard, PySem.W.mg_of X G oc_CalmBoard.a, f_Board___init__, fd_Board___init__, F_Board___init__, mt_Board___init__, b_Board___init__, f_Board___len__, fd_Board___len__, F_Board___len__, mt_Board___len__, b_Board___len__, f_Board___eq__, fd_Board___eq__, F_Board___eq__, mt_Board___eq__, b_Board___eq__, f_Board_put, fd_Board_put, F_Board_put, mt_Board_put, b_Board_put, f_Board_insert, fd_Board_insert, F_Board_insert, mt_Board_insert, b_Board_insert, f_Board_remove, fd_Board_remove, F_Board_remove, mt_Board_remove, b_Board_remove, f_Board_check_room, fd_Board_check_room, F_Board_check_room, mt_Board_check_room, b_Board_check_room, f_Board_keep, fd_Board_keep, F_Board_keep, mt_Board_keep, b_Board_keep, f_Board_undo, fd_Board_undo, F_Board_undo, mt_Board_undo, b_Board_undo, f_Board_go_back, fd_Board_go_back, F_Board_go_back, mt_Board_go_back, b_Board_go_back, f_Board_ring, fd_Board_ring, F_Board_ring, mt_Board_ring, f_CalmBoard___init__, fd_CalmBoard___init__, F_CalmBoard___init__, mt_CalmBoard___init__, b_CalmBoard___init__, f_CalmBoard_keep, fd_CalmBoard_keep, F_CalmBoard_keep, mt_CalmBoard_keep, b_CalmBoard_keep, f_CalmBoard_check_calm, fd_CalmBoard_check_calm, F_CalmBoard_check_calm, mt_CalmBoard_check_calm, b_CalmBoard_check_calm, bk_Board_ring_0, na_Board_limits, na_Board_standing, na_Board_states, na_CalmBoard_limits, na_CalmBoard_standing, na_CalmBoard_states, PySem.W.mg_none_of X G z_isinstance, PySem.W.mg_none_of X G z_int, PySem.W.mg_none_of X G z_bool, PySem.W.mg_none_of X G z_enumerate, PySem.W.mg_none_of X G z_tuple, PySem.W.mg_none_of X G z_len, PySem.W.mg_none_of X G z_range, PySem.W.mg_none_of X G z_sorted, PySem.W.mg_none_of X G z_abs, PySem.W.mg_none_of X G z_min, PySem.W.mg_none_of X G z_max, PySem.W.mg_none_of X G z_ValueError, PySem.W.mg_none_of X G z_LookupError, PySem.W.mg_none_of X G z_repr, PySem.W.mg_none_of X G z_list, PySem.W.mg_none_of X G z_version, PySem.W.mg_none_of X G z_super, t_LIMIT, PySem.W.mg_of X G z_LIMIT, t_MAX_LENGTH, PySem.W.mg_of X G z_MAX_LENGTH, t_MAX_EDITS, PySem.W.mg_of X G z_MAX_EDITS, (fun n => if n = "BadEdit" then .ref c_BadEdit else if n = "BadHeight" then .ref c_BadHeight else if n = "BadRing" then .ref c_BadRing else if n = "BadText" then .ref c_BadText else if n = "BadTolerance" then .ref c_BadTolerance else if n = "BadTurns" then .ref c_BadTurns else if n = "NoIndex" then .ref c_NoIndex else if n = "NoPlace" then .ref c_NoPlace else if n = "NoVersion" then .ref c_NoVersion else if n = "NotDistinct" then .ref c_NotDistinct else if n = "Rejected" then .ref c_Rejected else if n = "Restless" then .ref c_Restless else if n = "TooLong" then .ref c_TooLong else if n = "BadEdits" then .ref c_BadEdits else if n = "LastPlace" then .ref c_LastPlace else if n = "NothingToUndo" then .ref c_NothingToUndo else if n = "OutOfRange" then .ref c_OutOfRange else if n = "RingError" then .ref c_RingError else if n = "TooManyEdits" then .ref c_TooManyEdits else .none), ⟨(ih_CalmBoard_Board___eq__).trans mt_Board___eq__.at_, mt_Board___eq__.fn, mt_Board___eq__.kp⟩, ⟨(ih_CalmBoard_Board___len__).trans mt_Board___len__.at_, mt_Board___len__.fn, mt_Board___len__.kp⟩, ⟨(ih_CalmBoard_Board_check_room).trans mt_Board_check_room.at_, mt_Board_check_room.fn, mt_Board_check_room.kp⟩, ⟨(ih_CalmBoard_Board_go_back).trans mt_Board_go_back.at_, mt_Board_go_back.fn, mt_Board_go_back.kp⟩, ⟨(ih_CalmBoard_Board_insert).trans mt_Board_insert.at_, mt_Board_insert.fn, mt_Board_insert.kp⟩, ⟨(ih_CalmBoard_Board_put).trans mt_Board_put.at_, mt_Board_put.fn, mt_Board_put.kp⟩, ⟨(ih_CalmBoard_Board_remove).trans mt_Board_remove.at_, mt_Board_remove.fn, mt_Board_remove.kp⟩, ⟨(ih_CalmBoard_Board_ring).trans mt_Board_ring.at_, mt_Board_ring.fn, mt_Board_ring.kp⟩, ⟨(ih_CalmBoard_Board_undo).trans mt_Board_undo.at_, mt_Board_undo.fn, mt_Board_undo.kp⟩, ne_cls, sb_01, sb_10, ⟨mt_Board___eq__.at_, mt_Board___eq__.fn, xne_Board, icm_Board, xnf_Board⟩, ⟨(ih_CalmBoard_Board___eq__).trans mt_Board___eq__.at_, mt_Board___eq__.fn, xne_CalmBoard, icm_CalmBoard, xnf_CalmBoard⟩, xkt_Board, ⟨oc_Board.cl, ica_Board, icn_, ict_, icm_Board⟩, ⟨oc_CalmBoard.cl, ica_CalmBoard, icn_, ict_, icm_CalmBoard⟩, ki_Board_Board, ki_CalmBoard_Board, Option.isSome_iff_exists.mp hcx_CalmBoard, supC_mk sum_CalmBoard sup_CalmBoard___init__ mt_Board___init__ F_Board___init__ sop_, supC_mk sum_CalmBoard sup_CalmBoard_keep mt_Board_keep F_Board_keep sop_, c_BadEdit, PySem.W.mg_of X G a_BadEdit, c_BadHeight, PySem.W.mg_of X G a_BadHeight, c_BadRing, PySem.W.mg_of X G a_BadRing, c_BadText, PySem.W.mg_of X G a_BadText, c_BadTolerance, PySem.W.mg_of X G a_BadTolerance, c_BadTurns, PySem.W.mg_of X G a_BadTurns, c_NoIndex, PySem.W.mg_of X G a_NoIndex, c_NoPlace, PySem.W.mg_of X G a_NoPlace, c_NoVersion, PySem.W.mg_of X G a_NoVersion, c_NotDistinct, PySem.W.mg_of X G a_NotDistinct, c_Rejected, PySem.W.mg_of X G a_Rejected, c_Restless, PySem.W.mg_of X G a_Restless, c_TooLong, PySem.W.mg_of X G a_TooLong, c_BadEdits, PySem.W.mg_of X G a_BadEdits, c_LastPlace, PySem.W.mg_of X G a_LastPlace, c_NothingToUndo, PySem.W.mg_of X G a_NothingToUndo, c_OutOfRange, PySem.W.mg_of X G a_OutOfRange, c_RingError, PySem.W.mg_of X G a_RingError, c_TooManyEdits, PySem.W.mg_of X G a_TooManyEdits, (by simp (decide := true) only [if_pos, if_neg, if_true, if_false, reduceIte]), ⟨hcl_BadEdit, ga_BadEdit, gg_BadEdit, hs_BadEdit, ha_BadEdit, hn_, ht_, hm_BadEdit⟩, (by simp (decide := true) only [if_pos, if_neg, if_true, if_false, reduceIte]), ⟨hcl_BadHeight, ga_BadHeight, gg_BadHeight, hs_BadHeight, ha_BadHeight, hn_, ht_, hm_BadHeight⟩, (by simp (decide := true) only [if_pos, if_neg, if_true, if_false, reduceIte]), ⟨hcl_BadRing, ga_BadRing, gg_BadRing, hs_BadRing, ha_BadRing, hn_, ht_, hm_BadRing⟩, (by simp (decide := true) only [if_pos, if_neg, if_true, if_false, reduceIte]), ⟨hcl_BadText, ga_BadText, gg_BadText, hs_BadText, ha_BadText, hn_, ht_, hm_BadText⟩, (by simp (decide := true) only [if_pos, if_neg, if_true, if_false, reduceIte]), ⟨hcl_BadTolerance, ga_BadTolerance, gg_BadTolerance, hs_BadTolerance, ha_BadTolerance, hn_, ht_, hm_BadTolerance⟩, (by simp (decide := true) only [if_pos, if_neg, if_true, if_false, reduceIte]), ⟨hcl_BadTurns, ga_BadTurns, gg_BadTurns, hs_BadTurns, ha_BadTurns, hn_, ht_, hm_BadTurns⟩, (by simp (decide := true) only [if_pos, if_neg, if_true, if_false, reduceIte]), ⟨hcl_NoIndex, ga_NoIndex, gg_NoIndex, hs_NoIndex, ha_NoIndex, hn_, ht_, hm_NoIndex⟩, (by simp (decide := true) only [if_pos, if_neg, if_true, if_false, reduceIte]), ⟨hcl_NoPlace, ga_NoPlace, gg_NoPlace, hs_NoPlace, ha_NoPlace, hn_, ht_, hm_NoPlace⟩, (by simp (decide := true) only [if_pos, if_neg, if_true, if_false, reduceIte]), ⟨hcl_NoVersion, ga_NoVersion, gg_NoVersion, hs_NoVersion, ha_NoVersion, hn_, ht_, hm_NoVersion⟩, (by simp (decide := true) only [if_pos, if_neg, if_true, if_false, reduceIte]), ⟨hcl_NotDistinct, ga_NotDistinct, gg_NotDistinct, hs_NotDistinct, ha_NotDistinct, hn_, ht_, hm_NotDistinct⟩, (by simp (decide := true) only [if_pos, if_neg, if_true, if_false, reduceIte]), ⟨hcl_Rejected, ga_Rejected, gg_Rejected, hs_Rejected, ha_Rejected, hn_, ht_, hm_Rejected⟩, (by simp (decide := true) only [if_pos, if_neg, if_true, if_false, reduceIte]), ⟨hcl_Restless, ga_Restless, gg_Restless, hs_Restless, ha_Restless, hn_, ht_, hm_Restless⟩, (by simp (decide := true) only [if_pos, if_neg, if_true, if_false, reduceIte]), ⟨hcl_TooLong, ga_TooLong, gg_TooLong, hs_TooLong, ha_TooLong, hn_, ht_, hm_TooLong⟩, (by simp (decide := true) only [if_pos, if_neg, if_true, if_false, reduceIte]), ⟨hcl_BadEdits, ga_BadEdits, gg_BadEdits, hs_BadEdits, ha_BadEdits, hn_, ht_, hm_BadEdits⟩, (by simp (decide := true) only [if_pos, if_neg, if_true, if_false, reduceIte]), ⟨hcl_LastPlace, ga_LastPlace, gg_LastPlace, hs_LastPlace, ha_LastPlace, hn_, ht_, hm_LastPlace⟩, (by simp (decide := true) only [if_pos, if_neg, if_true, if_false, reduceIte]), ⟨hcl_NothingToUndo, ga_NothingToUndo, gg_NothingToUndo, hs_NothingToUndo, ha_NothingToUndo, hn_, ht_, hm_NothingToUndo⟩, (by simp (decide := true) only [if_pos, if_neg, if_true, if_false, reduceIte]), ⟨hcl_OutOfRange, ga_OutOfRange, gg_OutOfRange, hs_OutOfRange, ha_OutOfRange, hn_, ht_, hm_OutOfRange⟩, (by simp (decide := true) only [if_pos, if_neg, if_true, if_false, reduceIte]), ⟨hcl_RingError, ga_RingError, gg_RingError, hs_RingError, ha_RingError, hn_, ht_, hm_RingError⟩, (by simp (decide := true) only [if_pos, if_neg, if_true, if_false, reduceIte]), ⟨hcl_TooManyEdits, ga_TooManyEdits, gg_TooManyEdits, hs_TooManyEdits, ha_TooManyEdits, hn_, ht_, hm_TooManyEdits⟩, ⟨xi_BadEdit, xo_BadEdit, h_BadEdit, sa_BadEdit, hs_BadEdit, ty_BadEdit, kc_BadEdit⟩, n_BadEdit, f1_BadEdit, _, i_BadEdit, y_BadEdit, fun_mk l_BadEdit lc_BadEdit lk_BadEdit, (fun_mk (st := sI_BadEdit) l_BadEdit lc_BadEdit lk_BadEdit).binds (ps := ["self", "index"]) fun _ _ _ _ _ _ us hl => match us, hl with | [_, _], _ => rfl, h_BadEdit, ⟨xi_BadHeight, xo_BadHeight, h_BadHeight, sa_BadHeight, hs_BadHeight, ty_BadHeight, kc_BadHeight⟩, n_BadHeight, f1_BadHeight, _, i_BadHeight, y_BadHeight, fun_mk l_BadHeight lc_BadHeight lk_BadHeight, (fun_mk (st := sI_BadHeight) l_BadHeight lc_BadHeight lk_BadHeight).binds (ps := ["self", "value"]) fun _ _ _ _ _ _ us hl => match us, hl with | [_, _], _ => rfl, h_BadHeight, ⟨xi_BadRing, xo_BadRing, h_BadRing, sa_BadRing, hs_BadRing, ty_BadRing, kc_BadRing⟩, n_BadRing, f1_BadRing, _, i_BadRing, y_BadRing, fun_mk l_BadRing lc_BadRing lk_BadRing, (fun_mk (st := sI_BadRing) l_BadRing lc_BadRing lk_BadRing).binds (ps := ["self", "error"]) fun _ _ _ _ _ _ us hl => match us, hl with | [_, _], _ => rfl, h_BadRing, ⟨xi_BadText, xo_BadText, h_BadText, sa_BadText, hs_BadText, ty_BadText, kc_BadText⟩, n_BadText, f1_BadText, _, i_BadText, y_BadText, fun_mk l_BadText lc_BadText lk_BadText, (fun_mk (st := sI_BadText) l_BadText lc_BadText lk_BadText).binds (ps := ["self", "index"]) fun _ _ _ _ _ _ us hl => match us, hl with | [_, _], _ => rfl, h_BadText, ⟨xi_BadTolerance, xo_BadTolerance, h_BadTolerance, sa_BadTolerance, hs_BadTolerance, ty_BadTolerance, kc_BadTolerance⟩, n_BadTolerance, f1_BadTolerance, _, i_BadTolerance, y_BadTolerance, fun_mk l_BadTolerance lc_BadTolerance lk_BadTolerance, (fun_mk (st := sI_BadTolerance) l_BadTolerance lc_BadTolerance lk_BadTolerance).binds (ps := ["self", "value"]) fun _ _ _ _ _ _ us hl => match us, hl with | [_, _], _ => rfl, h_BadTolerance, ⟨xi_BadTurns, xo_BadTurns, h_BadTurns, sa_BadTurns, hs_BadTurns, ty_BadTurns, kc_BadTurns⟩, n_BadTurns, f1_BadTurns, _, i_BadTurns, y_BadTurns, fun_mk l_BadTurns lc_BadTurns lk_BadTurns, (fun_mk (st := sI_BadTurns) l_BadTurns lc_BadTurns lk_BadTurns).binds (ps := ["self", "value"]) fun _ _ _ _ _ _ us hl => match us, hl with | [_, _], _ => rfl, h_BadTurns, ⟨xi_NoIndex, xo_NoIndex, h_NoIndex, sa_NoIndex, hs_NoIndex, ty_NoIndex, kc_NoIndex⟩, n_NoIndex, f1_NoIndex, _, i_NoIndex, y_NoIndex, fun_mk l_NoIndex lc_NoIndex lk_NoIndex, (fun_mk (st := sI_NoIndex) l_NoIndex lc_NoIndex lk_NoIndex).binds (ps := ["self", "value"]) fun _ _ _ _ _ _ us hl => match us, hl with | [_, _], _ => rfl, h_NoIndex, ⟨xi_NoPlace, xo_NoPlace, h_NoPlace, sa_NoPlace, hs_NoPlace, ty_NoPlace, kc_NoPlace⟩, n_NoPlace, f1_NoPlace, _, i_NoPlace, y_NoPlace, fun_mk l_NoPlace lc_NoPlace lk_NoPlace, (fun_mk (st := sI_NoPlace) l_NoPlace lc_NoPlace lk_NoPlace).binds (ps := ["self", "value"]) fun _ _ _ _ _ _ us hl => match us, hl with | [_, _], _ => rfl, h_NoPlace, ⟨xi_NoVersion, xo_NoVersion, h_NoVersion, sa_NoVersion, hs_NoVersion, ty_NoVersion, kc_NoVersion⟩, n_NoVersion, f1_NoVersion, _, i_NoVersion, y_NoVersion, fun_mk l_NoVersion lc_NoVersion lk_NoVersion, (fun_mk (st := sI_NoVersion) l_NoVersion lc_NoVersion lk_NoVersion).binds (ps := ["self", "value"]) fun _ _ _ _ _ _ us hl => match us, hl with | [_, _], _ => rfl, h_NoVersion, ⟨xi_NotDistinct, xo_NotDistinct, h_NotDistinct, sa_NotDistinct, hs_NotDistinct, ty_NotDistinct, kc_NotDistinct⟩, n_NotDistinct, f1_NotDistinct, _, i_NotDistinct, y_NotDistinct, fun_mk l_NotDistinct lc_NotDistinct lk_NotDistinct, (fun_mk (st := sI_NotDistinct) l_NotDistinct lc_NotDistinct lk_NotDistinct).binds (ps := ["self", "height"]) fun _ _ _ _ _ _ us hl => match us, hl with | [_, _], _ => rfl, h_NotDistinct, ⟨xi_Rejected, xo_Rejected, h_Rejected, sa_Rejected, hs_Rejected, ty_Rejected, kc_Rejected⟩, n_Rejected, f1_Rejected, _, i_Rejected, y_Rejected, fun_mk l_Rejected lc_Rejected lk_Rejected, (fun_mk (st := sI_Rejected) l_Rejected lc_Rejected lk_Rejected).binds (ps := ["self", "index"]) fun _ _ _ _ _ _ us hl => match us, hl with | [_, _], _ => rfl, h_Rejected, ⟨xi_Restless, xo_Restless, h_Restless, sa_Restless, hs_Restless, ty_Restless, kc_Restless⟩, n_Restless, f1_Restless, _, i_Restless, y_Restless, fun_mk l_Restless lc_Restless lk_Restless, (fun_mk (st := sI_Restless) l_Restless lc_Restless lk_Restless).binds (ps := ["self", "number"]) fun _ _ _ _ _ _ us hl => match us, hl with | [_, _], _ => rfl, h_Restless, ⟨xi_TooLong, xo_TooLong, h_TooLong, sa_TooLong, hs_TooLong, ty_TooLong, kc_TooLong⟩, n_TooLong, f1_TooLong, _, i_TooLong, y_TooLong, fun_mk l_TooLong lc_TooLong lk_TooLong, (fun_mk (st := sI_TooLong) l_TooLong lc_TooLong lk_TooLong).binds (ps := ["self", "bound"]) fun _ _ _ _ _ _ us hl => match us, hl with | [_, _], _ => rfl, h_TooLong, q_BadEdits, kc_BadEdits, ty_BadEdits, q_LastPlace, kc_LastPlace, ty_LastPlace, q_NothingToUndo, kc_NothingToUndo, ty_NothingToUndo, q_OutOfRange, kc_OutOfRange, ty_OutOfRange, q_RingError, kc_RingError, ty_RingError, q_TooManyEdits, kc_TooManyEdits, ty_TooManyEdits, kv_BadEdit, kv_BadEdits, kv_BadHeight, kv_BadRing, kv_BadText, kv_BadTolerance, kv_BadTurns, kv_LastPlace, kv_LookupError, kv_NoIndex, kv_NoPlace, kv_NoVersion, kv_NotDistinct, kv_NothingToUndo, kv_OutOfRange, kv_Rejected, kv_Restless, kv_RingError, kv_TooLong, kv_TooManyEdits, kv_ValueError⟩
  have main : ∀ base : Heap, FnG PySem.Challenge.rw_ringswings_k61_board_equality_and_errors.prog w K mg base CX0 13 f_law fd_law ["_law_script"] (spLaw K) := by
    intro base
    exact ok_all T ⟨by rfl, by rfl⟩
  have e : fa = f_law := by
    have z := hfa.symm.trans g_law
    cases z
    rfl
  rw [e]
  exact ⟨fd_law, fun s u => by rw [efd]; exact .of_eq rfl, fun base _ _ => main base⟩
end R61
open PySem PySem.W PyProof.Rows
set_option maxHeartbeats 0 in
theorem PySem.Challenge.cw_ringswings_k61_board_equality_and_errors_holds : PySem.Challenge.rw_ringswings_k61_board_equality_and_errors.Holds := by
  w_on; o_law; k_head; (case hw => w_witness2)
  k_fill
  refine RS.walk_ofG (l := PySem.Challenge.rw_ringswings_k61_board_equality_and_errors) (n := 63) (k := 13) (x := "_law_script") (sp := R61.spLaw) rfl (by decide) rfl ⟨rfl, by decide, by decide⟩ (fun w h Y => PySem.W.kIn_of Y) ?F (fun _ _ a ns hl hS => ⟨a, ns, rfl, hS, fun _ => rfl⟩)
  case F =>
    intro w mg fa h KX G hmg
    refine' R61.all_mk KX G hmg (RS.cls_mk ?q0_0 ?q0_1 ?q0_2 ?q0_3 ?q0_4 ?q0_5 ?q0_6) (RS.cls_mk ?q1_0 ?q1_1 ?q1_2 ?q1_3 ?q1_4 ?q1_5 ?q1_6) (RS.def_mk ?a0 ?l0 ?c0 ?k0) (RS.def_mk ?a1 ?l1 ?c1 ?k1) (RS.def_mk ?a2 ?l2 ?c2 ?k2) (RS.def_mk ?a3 ?l3 ?c3 ?k3) (RS.def_mk ?a4 ?l4 ?c4 ?k4) (RS.def_mk ?a5 ?l5 ?c5 ?k5) (RS.def_mk ?a6 ?l6 ?c6 ?k6) (RS.def_mk ?a7 ?l7 ?c7 ?k7) (RS.def_mk ?a8 ?l8 ?c8 ?k8) (RS.def_mk ?a9 ?l9 ?c9 ?k9) (RS.def_mk ?a10 ?l10 ?c10 ?k10) (RS.def_mk ?a11 ?l11 ?c11 ?k11) (RS.def_mk ?a12 ?l12 ?c12 ?k12) (RS.def_mk ?a13 ?l13 ?c13 ?k13) (RS.def_mk ?a14 ?l14 ?c14 ?k14) (RS.def_mk ?a15 ?l15 ?c15 ?k15) (RS.def_mk ?a16 ?l16 ?c16 ?k16) (RS.def_mk ?a17 ?l17 ?c17 ?k17) (RS.def_mk ?a18 ?l18 ?c18 ?k18) (RS.def_mk ?a19 ?l19 ?c19 ?k19) (RS.def_mk ?a20 ?l20 ?c20 ?k20) (RS.def_mk ?a21 ?l21 ?c21 ?k21) (RS.def_mk ?a22 ?l22 ?c22 ?k22) (RS.def_mk ?a23 ?l23 ?c23 ?k23) (RS.def_mk ?a24 ?l24 ?c24 ?k24) (RS.def_mk ?a25 ?l25 ?c25 ?k25) (RS.def_mk ?a26 ?l26 ?c26 ?k26) (RS.def_mk ?a27 ?l27 ?c27 ?k27) (RS.def_mk ?a28 ?l28 ?c28 ?k28) (RS.def_mk ?a29 ?l29 ?c29 ?k29) (RS.def_mk ?a30 ?l30 ?c30 ?k30) (RS.def_mk ?a31 ?l31 ?c31 ?k31) (RS.met_mk ?ma0 ?ml0 ?mc0 ?mk0 ?mi0) (RS.met_mk ?ma1 ?ml1 ?mc1 ?mk1 ?mi1) (RS.met_mk ?ma2 ?ml2 ?mc2 ?mk2 ?mi2) (RS.met_mk ?ma3 ?ml3 ?mc3 ?mk3 ?mi3) (RS.met_mk ?ma4 ?ml4 ?mc4 ?mk4 ?mi4) (RS.met_mk ?ma5 ?ml5 ?mc5 ?mk5 ?mi5) (RS.met_mk ?ma6 ?ml6 ?mc6 ?mk6 ?mi6) (RS.met_mk ?ma7 ?ml7 ?mc7 ?mk7 ?mi7) (RS.met_mk ?ma8 ?ml8 ?mc8 ?mk8 ?mi8) (RS.met_mk ?ma9 ?ml9 ?mc9 ?mk9 ?mi9) (RS.met_mkK ?ma10 ?ml10 ?mc10 ?mk10 ?mi10 (List.forall_mem_cons.mpr ⟨RS.kw_none ?mw10_0, (fun _ h => nomatch h)⟩)) (RS.met_mkS ?ma11 ?ml11 ?mc11 ?mk11 ?mi11 ?mx11 ?my11 ?mz11) (RS.met_mkS ?ma12 ?ml12 ?mc12 ?mk12 ?mi12 ?mx12 ?my12 ?mz12) (RS.met_mk ?ma13 ?ml13 ?mc13 ?mk13 ?mi13) ?n0 ?n1 ?n2 ?n3 ?n4 ?n5 ?z0 ?z1 ?z2 ?z3 ?z4 ?z5 ?z6 ?z7 ?z8 ?z9 ?z10 ?z11 ?z12 ?z13 ?z14 ?z15 ?z16 ?y0 ?y1 ?y2 ?v0 ?v1 ?v2 ?v3 ?v4 ?v5 ?v6 ?v7 ?v8 ?v9 ?v10 ?v11 ?v12 ?v13 ?v14 ?v15 ?v16 ?v17 ?v18 ?v19 ?v20 ?v21 ?v22 ?v23 ?v24 ?v25 ?v26 ?v27 ?v28 ?v29 ?v30 ?v31 ?v32 ?v33 ?v34 ?v35 ?v36 ?v37 ?v38 ?v39 ?v40 ?v41 ?v42 ?v43 ?v44 ?v45 ?v46 ?v47 ?v48 ?v49 ?v50 ?v51 ?v52 ?v53 ?v54 ?v55 ?v56 ?v57 ?v58 ?v59 ?v60 ?v61 ?v62 ?v63 ?v64 ?v65 ?v66 ?v67 ?v68 ?v69 ?v70 ?v71 ?v72 ?v73 ?v74 ?v75 ?v76 ?v77 ?v78 ?v79 ?v80 ?v81 ?v82 ?v83 ?v84 ?v85 ?v86 ?v87 ?v88 ?v89 ?v90 ?v91 ?v92 ?v93 ?v94 ?v95 ?v96 ?v97 ?v98 ?v99 ?v100 ?v101 ?v102 ?v103 ?v104 ?v105 ?v106 ?v107 ?v108 ?v109 ?v110 ?v111 ?v112 ?v113 ?v114 ?v115 ?v116 ?v117 ?v118 ?v119 ?v120 ?v121 ?v122 ?v123 ?v124 ?v125 ?v126 ?v127 ?v128 ?v129 ?v130 ?v131 ?v132 ?v133 ?v134 ?v135 ?v136 ?v137 ?v138 ?v139 ?v140 ?v141 ?v142 ?v143 ?v144 ?v145 ?v146 ?v147 ?v148 ?v149 ?v150 ?v151 ?v152 ?v153 ?v154 ?v155 ?v156 ?v157 ?v158 ?v159 ?v160 ?v161 ?v162 ?v163 ?v164 ?v165 ?v166 ?v167 ?v168 ?v169 ?v170 ?v171 ?v172 ?v173 ?v174 ?v175 ?v176 ?v177 ?v178 ?v179 ?v180 ?v181 ?v182 ?v183 ?v184 ?v185 ?v186 ?v187 ?v188 ?v189 ?v190 ?v191 ?v192 ?v193 ?v194 ?v195 ?v196 ?v197 ?v198 ?v199 ?v200 ?v201 ?v202 ?v203 ?v204 ?v205 ?v206 ?v207 ?v208 ?v209 ?v210 ?v211 ?v212 ?v213 ?v214 ?v215 ?v216 ?v217 ?v218 ?v219 ?v220 ?v221 ?v222 ?v223 ?v224 ?v225 ?v226 ?v227 ?v228 ?v229 ?v230 ?v231 ?v232 ?v233 ?v234 ?v235 ?v236 ?v237 ?v238 ?v239 ?v240 ?v241 ?v242 ?v243 ?v244 ?v245 ?v246 ?v247 ?v248 ?v249 ?v250 ?v251 ?v252 ?v253 ?v254 ?v255 ?v256 ?v257 ?v258 ?v259 ?v260 ?v261 ?v262 ?v263 ?v264 ?v265 ?v266 ?v267 ?v268 ?v269 ?v270 ?v271 ?v272 ?v273 ?v274 ?v275 ?v276 ?v277 ?v278 ?v279 ?v280 ?v281 ?v282 ?v283 ?v284 ?v285 ?v286 ?v287 ?v288 ?v289 ?v290 ?v291 ?v292 ?v293 ?v294 ?v295 ?v296 ?v297 ?v298 ?v299 ?v300 ?v301 ?v302 ?v303 ?v304 ?v305 ?v306 ?v307 ?v308 ?v309 ?v310 ?v311 ?v312 ?v313 ?v314 ?v315 ?v316 ?v317 ?v318 ?v319 ?v320 ?v321 ?v322 ?v323 ?v324 ?v325 ?v326 ?v327 ?v328 ?v329 ?v330 ?v331 ?v332 ?v333 ?v334 ?v335 ?v336 ?v337 ?v338 ?v339 ?v340 ?v341 ?v342 ?v343 ?v344 ?v345 ?v346 ?v347 ?v348 ?v349 ?v350 ?v351 ?v352 ?v353 ?v354 ?v355 ?v356 ?v357 ?v358 ?v359
    (case q0_0 => k_is)
    (case q0_1 => k_is)
    (case q0_2 => k_is)
    (case q0_3 => k_is)
    (case q0_4 => k_is)
    (case q0_5 => k_is)
    (case q0_6 => k_is)
    (case q1_0 => k_is)
    (case q1_1 => k_is)
    (case q1_2 => k_is)
    (case q1_3 => k_is)
    (case q1_4 => k_is)
    (case q1_5 => k_is)
    (case q1_6 => k_is)
    (case a0 => k_is)
    (case l0 => k_is)
    (case c0 => k_is)
    (case k0 => k_is)
    (case a1 => k_is)
    (case l1 => k_is)
    (case c1 => k_is)
    (case k1 => k_is)
    (case a2 => k_is)
    (case l2 => k_is)
    (case c2 => k_is)
    (case k2 => k_is)
    (case a3 => k_is)
    (case l3 => k_is)
    (case c3 => k_is)
    (case k3 => k_is)
    (case a4 => k_is)
    (case l4 => k_is)
    (case c4 => k_is)
    (case k4 => k_is)
    (case a5 => k_is)
    (case l5 => k_is)
    (case c5 => k_is)
    (case k5 => k_is)
    (case a6 => k_is)
    (case l6 => k_is)
    (case c6 => k_is)
    (case k6 => k_is)
    (case a7 => k_is)
    (case l7 => k_is)
    (case c7 => k_is)
    (case k7 => k_is)
    (case a8 => k_is)
    (case l8 => k_is)
    (case c8 => k_is)
    (case k8 => k_is)
    (case a9 => k_is)
    (case l9 => k_is)
    (case c9 => k_is)
    (case k9 => k_is)
    (case a10 => k_is)
    (case l10 => k_is)
    (case c10 => k_is)
    (case k10 => k_is)
    (case a11 => k_is)
    (case l11 => k_is)
    (case c11 => k_is)
    (case k11 => k_is)
    (case a12 => k_is)
    (case l12 => k_is)
    (case c12 => k_is)
    (case k12 => k_is)
    (case a13 => k_is)
    (case l13 => k_is)
    (case c13 => k_is)
    (case k13 => k_is)
    (case a14 => k_is)
    (case l14 => k_is)
    (case c14 => k_is)
    (case k14 => k_is)
    (case a15 => k_is)
    (case l15 => k_is)
    (case c15 => k_is)
    (case k15 => k_is)
    (case a16 => k_is)
    (case l16 => k_is)
    (case c16 => k_is)
    (case k16 => k_is)
    (case a17 => k_is)
    (case l17 => k_is)
    (case c17 => k_is)
    (case k17 => k_is)
    (case a18 => k_is)
    (case l18 => k_is)
    (case c18 => k_is)
    (case k18 => k_is)
    (case a19 => k_is)
    (case l19 => k_is)
    (case c19 => k_is)
    (case k19 => k_is)
    (case a20 => k_is)
    (case l20 => k_is)
    (case c20 => k_is)
    (case k20 => k_is)
    (case a21 => k_is)
    (case l21 => k_is)
    (case c21 => k_is)
    (case k21 => k_is)
    (case a22 => k_is)
    (case l22 => k_is)
    (case c22 => k_is)
    (case k22 => k_is)
    (case a23 => k_is)
    (case l23 => k_is)
    (case c23 => k_is)
    (case k23 => k_is)
    (case a24 => k_is)
    (case l24 => k_is)
    (case c24 => k_is)
    (case k24 => k_is)
    (case a25 => k_is)
    (case l25 => k_is)
    (case c25 => k_is)
    (case k25 => k_is)
    (case a26 => k_is)
    (case l26 => k_is)
    (case c26 => k_is)
    (case k26 => k_is)
    (case a27 => k_is)
    (case l27 => k_is)
    (case c27 => k_is)
    (case k27 => k_is)
    (case a28 => k_is)
    (case l28 => k_is)
    (case c28 => k_is)
    (case k28 => k_is)
    (case a29 => k_is)
    (case l29 => k_is)
    (case c29 => k_is)
    (case k29 => k_is)
    (case a30 => k_is)
    (case l30 => k_is)
    (case c30 => k_is)
    (case k30 => k_is)
    (case a31 => k_is)
    (case l31 => k_is)
    (case c31 => k_is)
    (case k31 => k_is)
    (case ma0 => k_is)
    (case ml0 => k_is)
    (case mc0 => k_is)
    (case mk0 => k_is)
    (case mi0 => k_is)
    (case ma1 => k_is)
    (case ml1 => k_is)
    (case mc1 => k_is)
    (case mk1 => k_is)
    (case mi1 => k_is)
    (case ma2 => k_is)
    (case ml2 => k_is)
    (case mc2 => k_is)
    (case mk2 => k_is)
    (case mi2 => k_is)
    (case ma3 => k_is)
    (case ml3 => k_is)
    (case mc3 => k_is)
    (case mk3 => k_is)
    (case mi3 => k_is)
    (case ma4 => k_is)
    (case ml4 => k_is)
    (case mc4 => k_is)
    (case mk4 => k_is)
    (case mi4 => k_is)
    (case ma5 => k_is)
    (case ml5 => k_is)
    (case mc5 => k_is)
    (case mk5 => k_is)
    (case mi5 => k_is)
    (case ma6 => k_is)
    (case ml6 => k_is)
    (case mc6 => k_is)
    (case mk6 => k_is)
    (case mi6 => k_is)
    (case ma7 => k_is)
    (case ml7 => k_is)
    (case mc7 => k_is)
    (case mk7 => k_is)
    (case mi7 => k_is)
    (case ma8 => k_is)
    (case ml8 => k_is)
    (case mc8 => k_is)
    (case mk8 => k_is)
    (case mi8 => k_is)
    (case ma9 => k_is)
    (case ml9 => k_is)
    (case mc9 => k_is)
    (case mk9 => k_is)
    (case mi9 => k_is)
    (case ma10 => k_is)
    (case ml10 => k_is)
    (case mc10 => k_is)
    (case mk10 => k_is)
    (case mi10 => k_is)
    (case mw10_0 => k_is)
    (case ma11 => k_is)
    (case ml11 => k_is)
    (case mc11 => k_is)
    (case mk11 => k_is)
    (case mi11 => k_is)
    (case mx11 => k_is)
    (case my11 => k_is)
    (case mz11 => rfl)
    (case ma12 => k_is)
    (case ml12 => k_is)
    (case mc12 => k_is)
    (case mk12 => k_is)
    (case mi12 => k_is)
    (case mx12 => k_is)
    (case my12 => k_is)
    (case mz12 => rfl)
    (case ma13 => k_is)
    (case ml13 => k_is)
    (case mc13 => k_is)
    (case mk13 => k_is)
    (case mi13 => k_is)
    (case n0 => k_is)
    (case n1 => k_is)
    (case n2 => k_is)
    (case n3 => k_is)
    (case n4 => k_is)
    (case n5 => k_is)
    (case z0 => k_is)
    (case z1 => k_is)
    (case z2 => k_is)
    (case z3 => k_is)
    (case z4 => k_is)
    (case z5 => k_is)
    (case z6 => k_is)
    (case z7 => k_is)
    (case z8 => k_is)
    (case z9 => k_is)
    (case z10 => k_is)
    (case z11 => k_is)
    (case z12 => k_is)
    (case z13 => k_is)
    (case z14 => k_is)
    (case z15 => k_is)
    (case z16 => k_is)
    (case y0 => exact ⟨_, by k_is⟩)
    (case y1 => exact ⟨_, by k_is⟩)
    (case y2 => exact ⟨_, by k_is⟩)
    (case v0 => first | rfl | kernel_rfl)
    (case v1 => first | rfl | kernel_rfl)
    (case v2 => first | rfl | kernel_rfl)
    (case v3 => first | rfl | kernel_rfl)
    (case v4 => first | rfl | kernel_rfl)
    (case v5 => first | rfl | kernel_rfl)
    (case v6 => first | rfl | kernel_rfl)
    (case v7 => first | rfl | kernel_rfl)
    (case v8 => first | rfl | kernel_rfl)
    (case v9 => decide)
    (case v10 => k_is)
    (case v11 => intro n hn; simp only [RS.tyAll, List.mem_cons, List.not_mem_nil, or_false] at hn; rcases hn with rfl | rfl | rfl | rfl | rfl | rfl | rfl <;> first | k_is | rfl | kernel_rfl)
    (case v12 => k_is)
    (case v13 => intro n hn; simp only [RS.tyAll, List.mem_cons, List.not_mem_nil, or_false] at hn; rcases hn with rfl | rfl | rfl | rfl | rfl | rfl | rfl <;> first | k_is | rfl | kernel_rfl)
    (case v14 => intro n hn; simp only [RS.tyAll, List.mem_cons, List.not_mem_nil, or_false] at hn; rcases hn with rfl | rfl | rfl | rfl | rfl | rfl | rfl <;> first | k_is | rfl | kernel_rfl)
    (case v15 => k_is)
    (case v16 => k_is)
    (case v17 => k_is)
    (case v18 => k_is)
    (case v19 => k_is)
    (case v20 => k_is)
    (case v21 => first | k_is | rfl | decide +kernel)
    (case v22 => first | k_is | rfl | decide +kernel)
    (case v23 => k_is)
    (case v24 => k_is)
    (case v25 => k_is)
    (case v26 => k_is)
    (case v27 => first | rfl | kernel_rfl)
    (case v28 => first | rfl | kernel_rfl)
    (case v29 => k_is)
    (case v30 => k_is)
    (case v31 => k_is)
    (case v32 => k_is)
    (case v33 => k_is)
    (case v34 => k_is)
    (case v35 => k_is)
    (case v36 => k_is)
    (case v37 => k_is)
    (case v38 => k_is)
    (case v39 => k_is)
    (case v40 => k_is)
    (case v41 => k_is)
    (case v42 => k_is)
    (case v43 => k_is)
    (case v44 => k_is)
    (case v45 => k_is)
    (case v46 => k_is)
    (case v47 => k_is)
    (case v48 => k_is)
    (case v49 => k_is)
    (case v50 => k_is)
    (case v51 => k_is)
    (case v52 => k_is)
    (case v53 => k_is)
    (case v54 => k_is)
    (case v55 => k_is)
    (case v56 => k_is)
    (case v57 => k_is)
    (case v58 => k_is)
    (case v59 => k_is)
    (case v60 => k_is)
    (case v61 => k_is)
    (case v62 => k_is)
    (case v63 => k_is)
    (case v64 => k_is)
    (case v65 => k_is)
    (case v66 => k_is)
    (case v67 => k_is)
    (case v68 => k_is)
    (case v69 => k_is)
    (case v70 => k_is)
    (case v71 => k_is)
    (case v72 => k_is)
    (case v73 => k_is)
    (case v74 => k_is)
    (case v75 => k_is)
    (case v76 => k_is)
    (case v77 => k_is)
    (case v78 => k_is)
    (case v79 => k_is)
    (case v80 => k_is)
    (case v81 => k_is)
    (case v82 => k_is)
    (case v83 => k_is)
    (case v84 => k_is)
    (case v85 => k_is)
    (case v86 => k_is)
    (case v87 => k_is)
    (case v88 => k_is)
    (case v89 => k_is)
    (case v90 => k_is)
    (case v91 => k_is)
    (case v92 => k_is)
    (case v93 => k_is)
    (case v94 => k_is)
    (case v95 => k_is)
    (case v96 => k_is)
    (case v97 => k_is)
    (case v98 => k_is)
    (case v99 => k_is)
    (case v100 => k_is)
    (case v101 => k_is)
    (case v102 => k_is)
    (case v103 => k_is)
    (case v104 => k_is)
    (case v105 => k_is)
    (case v106 => k_is)
    (case v107 => k_is)
    (case v108 => k_is)
    (case v109 => k_is)
    (case v110 => k_is)
    (case v111 => k_is)
    (case v112 => k_is)
    (case v113 => k_is)
    (case v114 => k_is)
    (case v115 => k_is)
    (case v116 => k_is)
    (case v117 => k_is)
    (case v118 => k_is)
    (case v119 => k_is)
    (case v120 => k_is)
    (case v121 => k_is)
    (case v122 => k_is)
    (case v123 => k_is)
    (case v124 => k_is)
    (case v125 => k_is)
    (case v126 => k_is)
    (case v127 => k_is)
    (case v128 => k_is)
    (case v129 => k_is)
    (case v130 => k_is)
    (case v131 => k_is)
    (case v132 => k_is)
    (case v133 => k_is)
    (case v134 => k_is)
    (case v135 => k_is)
    (case v136 => k_is)
    (case v137 => k_is)
    (case v138 => k_is)
    (case v139 => k_is)
    (case v140 => k_is)
    (case v141 => k_is)
    (case v142 => k_is)
    (case v143 => k_is)
    (case v144 => k_is)
    (case v145 => k_is)
    (case v146 => k_is)
    (case v147 => k_is)
    (case v148 => k_is)
    (case v149 => k_is)
    (case v150 => k_is)
    (case v151 => k_is)
    (case v152 => k_is)
    (case v153 => k_is)
    (case v154 => k_is)
    (case v155 => k_is)
    (case v156 => k_is)
    (case v157 => k_is)
    (case v158 => k_is)
    (case v159 => k_is)
    (case v160 => k_is)
    (case v161 => k_is)
    (case v162 => k_is)
    (case v163 => k_is)
    (case v164 => k_is)
    (case v165 => k_is)
    (case v166 => k_is)
    (case v167 => k_is)
    (case v168 => k_is)
    (case v169 => k_is)
    (case v170 => k_is)
    (case v171 => k_is)
    (case v172 => k_is)
    (case v173 => k_is)
    (case v174 => k_is)
    (case v175 => k_is)
    (case v176 => k_is)
    (case v177 => k_is)
    (case v178 => k_is)
    (case v179 => k_is)
    (case v180 => k_is)
    (case v181 => k_is)
    (case v182 => k_is)
    (case v183 => k_is)
    (case v184 => k_is)
    (case v185 => k_is)
    (case v186 => k_is)
    (case v187 => k_is)
    (case v188 => k_is)
    (case v189 => k_is)
    (case v190 => k_is)
    (case v191 => k_is)
    (case v192 => k_is)
    (case v193 => k_is)
    (case v194 => k_is)
    (case v195 => k_is)
    (case v196 => k_is)
    (case v197 => k_is)
    (case v198 => k_is)
    (case v199 => k_is)
    (case v200 => k_is)
    (case v201 => k_is)
    (case v202 => k_is)
    (case v203 => first | k_is | kernel_rfl)
    (case v204 => first | k_is | kernel_rfl)
    (case v205 => k_is)
    (case v206 => k_is)
    (case v207 => k_is)
    (case v208 => k_is)
    (case v209 => k_is)
    (case v210 => k_is)
    (case v211 => k_is)
    (case v212 => k_is)
    (case v213 => first | k_is | kernel_rfl)
    (case v214 => first | k_is | kernel_rfl)
    (case v215 => k_is)
    (case v216 => k_is)
    (case v217 => k_is)
    (case v218 => k_is)
    (case v219 => k_is)
    (case v220 => k_is)
    (case v221 => k_is)
    (case v222 => k_is)
    (case v223 => first | k_is | kernel_rfl)
    (case v224 => first | k_is | kernel_rfl)
    (case v225 => k_is)
    (case v226 => k_is)
    (case v227 => k_is)
    (case v228 => k_is)
    (case v229 => k_is)
    (case v230 => k_is)
    (case v231 => k_is)
    (case v232 => k_is)
    (case v233 => first | k_is | kernel_rfl)
    (case v234 => first | k_is | kernel_rfl)
    (case v235 => k_is)
    (case v236 => k_is)
    (case v237 => k_is)
    (case v238 => k_is)
    (case v239 => k_is)
    (case v240 => k_is)
    (case v241 => k_is)
    (case v242 => k_is)
    (case v243 => first | k_is | kernel_rfl)
    (case v244 => first | k_is | kernel_rfl)
    (case v245 => k_is)
    (case v246 => k_is)
    (case v247 => k_is)
    (case v248 => k_is)
    (case v249 => k_is)
    (case v250 => k_is)
    (case v251 => k_is)
    (case v252 => k_is)
    (case v253 => first | k_is | kernel_rfl)
    (case v254 => first | k_is | kernel_rfl)
    (case v255 => k_is)
    (case v256 => k_is)
    (case v257 => k_is)
    (case v258 => k_is)
    (case v259 => k_is)
    (case v260 => k_is)
    (case v261 => k_is)
    (case v262 => k_is)
    (case v263 => first | k_is | kernel_rfl)
    (case v264 => first | k_is | kernel_rfl)
    (case v265 => k_is)
    (case v266 => k_is)
    (case v267 => k_is)
    (case v268 => k_is)
    (case v269 => k_is)
    (case v270 => k_is)
    (case v271 => k_is)
    (case v272 => k_is)
    (case v273 => first | k_is | kernel_rfl)
    (case v274 => first | k_is | kernel_rfl)
    (case v275 => k_is)
    (case v276 => k_is)
    (case v277 => k_is)
    (case v278 => k_is)
    (case v279 => k_is)
    (case v280 => k_is)
    (case v281 => k_is)
    (case v282 => k_is)
    (case v283 => first | k_is | kernel_rfl)
    (case v284 => first | k_is | kernel_rfl)
    (case v285 => k_is)
    (case v286 => k_is)
    (case v287 => k_is)
    (case v288 => k_is)
    (case v289 => k_is)
    (case v290 => k_is)
    (case v291 => k_is)
    (case v292 => k_is)
    (case v293 => first | k_is | kernel_rfl)
    (case v294 => first | k_is | kernel_rfl)
    (case v295 => k_is)
    (case v296 => k_is)
    (case v297 => k_is)
    (case v298 => k_is)
    (case v299 => k_is)
    (case v300 => k_is)
    (case v301 => k_is)
    (case v302 => k_is)
    (case v303 => first | k_is | kernel_rfl)
    (case v304 => first | k_is | kernel_rfl)
    (case v305 => k_is)
    (case v306 => k_is)
    (case v307 => k_is)
    (case v308 => k_is)
    (case v309 => k_is)
    (case v310 => k_is)
    (case v311 => k_is)
    (case v312 => k_is)
    (case v313 => first | k_is | kernel_rfl)
    (case v314 => first | k_is | kernel_rfl)
    (case v315 => k_is)
    (case v316 => k_is)
    (case v317 => k_is)
    (case v318 => k_is)
    (case v319 => k_is)
    (case v320 => k_is)
    (case v321 => k_is)
    (case v322 => k_is)
    (case v323 => first | k_is | kernel_rfl)
    (case v324 => first | k_is | kernel_rfl)
    (case v325 => k_is)
    (case v326 => k_is)
    (case v327 => k_is)
    (case v328 => k_is)
    (case v329 => k_is)
    (case v330 => k_is)
    (case v331 => k_is)
    (case v332 => k_is)
    (case v333 => k_exc)
    (case v334 => k_exc)
    (case v335 => k_exc)
    (case v336 => k_exc)
    (case v337 => k_exc)
    (case v338 => k_exc)
    (case v339 => first | rfl | decide +kernel)
    (case v340 => first | rfl | decide +kernel)
    (case v341 => first | rfl | decide +kernel)
    (case v342 => first | rfl | decide +kernel)
    (case v343 => first | rfl | decide +kernel)
    (case v344 => first | rfl | decide +kernel)
    (case v345 => first | rfl | decide +kernel)
    (case v346 => first | rfl | decide +kernel)
    (case v347 => first | rfl | decide +kernel)
    (case v348 => first | rfl | decide +kernel)
    (case v349 => first | rfl | decide +kernel)
    (case v350 => first | rfl | decide +kernel)
    (case v351 => first | rfl | decide +kernel)
    (case v352 => first | rfl | decide +kernel)
    (case v353 => first | rfl | decide +kernel)
    (case v354 => first | rfl | decide +kernel)
    (case v355 => first | rfl | decide +kernel)
    (case v356 => first | rfl | decide +kernel)
    (case v357 => first | rfl | decide +kernel)
    (case v358 => first | rfl | decide +kernel)
    (case v359 => first | rfl | decide +kernel)
