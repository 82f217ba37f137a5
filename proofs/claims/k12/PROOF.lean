import PyProof.Rows.All
import Wide.All
import OpenK.AllK
import Wide.FinOn
import HandS.List
import HandS.Comp
import HandS.Ends
import HandS.Dict
import HandS.Iter
import HandS.Words
import PyProof.ReprRoads
import KE.SortData
import KE.DataMinMax
import HandS.GenList
import HandS.GenYield
import HandS.AnyAll
import HandS.JoinGen
import PyProof.TupleOfGen
import KE.GoesMore
import HandS.Style
import KE.KNest
import HandS.EndTab
import HandS.SetFor
import HandS.DictComp
import HandS.Strs
import HandS.SetBool
import HandS.GenOver
import HandS.ForMost
import HandS.More
import HandS.Conv
import HandS.Deep
import HandS.Zip
import HandS.NoneIn
import KE.KTupSum
import HandS.Flow
import KE.Datum
import HandS.IsInst
import HandS.TupAny
import HandS.SortKw
import HandS.WideBits
import HandS.TupMul
import PyProof.TupleOfSeq
import HandS.ExcOwn
import HandS.ExcValue
import PyProof.Rows.SortShell
import HandS.ExcInit
import HandS.ExcSuper
import KE.KExcSuper
import HandS.ExcCtx
import HandS.HotCalls
import HandS.WordsExc
import HandS.FStr
import HandS.ExcIs
import HandS.ExcField
import KE.KExcIs
import HandS.Wide
import KE.GoesZip
import HandS.SetKeys
import HandS.Lambda
import KE.DataMinKey
import PySem.Challenge.RW_treesapart_k12_no_webs
set_option Elab.async false
set_option linter.all false
set_option maxRecDepth 100000
set_option maxHeartbeats 2000000
namespace TA
open PySem PySem.Spec PyProof.Rows L2
structure FnG (P : Program) (w : World) (K : PySem.W.Frag) (mg : Str → Option Value) (b0 : Heap)
    (CX : CXT) (k : Nat) (f : Addr) (fd : FuncData) (ps : List Str) (sp : Sp) : Prop where
  len : ∀ vs H Q E, sp vs H Q E → vs.length = ps.length
  run : ∀ (B : Around) (ou : List Env) (s : Shared) (H : Hp) (ar : Args) (us : List Value) (vs : List V)
    (Q : VK) (E : XK), B.guards = some [] → Room k B → Env0 P w K mg b0 B ou s H →
    BindsTo s fd ar (ps.zip us) → Vals vs us → sp vs H Q E →
    codeAny (model P w) B (.call (.ref f) ar) (CR CX ou P w H s Q E) s
section
variable {P : Program} {w : World} {K : PySem.W.Frag} {mg : Str → Option Value} {b0 : Heap} {CX : CXT}
variable {k : Nat} {f : Addr} {fd : FuncData} {ps : List Str} {sp : Sp}
theorem FnG.of (F : FnOk P w K mg b0 CX k f fd ps sp) : FnG P w K mg b0 CX k f fd ps sp :=
  ⟨F.len, fun B ou s H ar us vs Q E _ => F.run B ou s H ar us vs Q E⟩
theorem FnG.mono {j : Nat} (F : FnG P w K mg b0 CX j f fd ps sp) (h : j ≤ k) : FnG P w K mg b0 CX k f fd ps sp :=
  ⟨F.len, fun B ou s H ar us vs Q E g hr => F.run B ou s H ar us vs Q E g (hr.mono h)⟩
end
section
variable {X : Cx} {CX : CXT} {k : Nat} {f : Addr} {fd : FuncData} {ps : List Str} {sp : Sp} {dvs : List V}
variable {ds : List Value} {E : XK} {x : Str} {p pos : Pos} {e : Expr} {es : List Expr} {t : TA}
theorem run_fnG {pins : List (Addr × Obj)} {σ : L2.St} {H : Hp} {s : Shared} {Q : VK} {us : List Value}
    {vs : List V} (F : FnG X.prog X.w X.K X.mg X.base CX k f fd ps sp) (hg : X.A.guards = some [])
    (hr : Room k X.A) (hb : Binds X.K fd ps ds) (hd : Vals dvs ds) (hx : Passes CX X E)
    (I : Inv X pins σ H s) (r : Vals vs us) (h : sp (vs ++ dvs) H Q E) :
    wpAny (model X.prog X.w) X.A (call (.ref f) us) (EP X pins σ Q) X.xe s := by
  have rr : Vals (vs ++ dvs) (us ++ ds) := r.append hd
  have hl : (us ++ ds).length = ps.length := rr.length ▸ F.len _ _ _ _ h
  have go := F.run X.A X.stack s H ⟨us, []⟩ (us ++ ds) (vs ++ dvs) Q E hg hr I.env0 (hb s us I.kIn hl) rr h
  refine wpAny_call (codeAny_mono go fun z s' hq => ?_)
  match z, hq with
  | .error e, hq => exact hx pins σ H s e s' I hq
  | .ok (.ret u), hq => exact I.after hq
  | .ok .next, hq => exact False.elim hq
  | .ok .brk, hq => exact False.elim hq
  | .ok .cont, hq => exact False.elim hq
theorem pe_callG (F : FnG X.prog X.w X.K X.mg X.base CX k f fd ps sp) (hg : X.A.guards = some [])
    (hr : Room k X.A) (hgl : Gl X x) (hm : X.mg x = some (.ref f)) (hk : PySem.W.keepIn X.K (.ref f) = true)
    (hb : Binds X.K fd ps ds) (hd : Vals dvs ds) (hx : Passes CX X E) (ha : PA X (e :: es) t)
    (hdb : (x == ("__debug__" : Str)) = false := by decide)
    (he : starEach (e :: es) X.env = (false, eval e X.env) :: starEach es X.env := by rfl)
    (hpl : (backTo pos (starEach es X.env)).any (·.1) = false := by rfl) :
    PE X (.Call (.Name x p) (e :: es) [] pos) (tCall sp dvs E t) := by
  refine ⟨fun pins s σ H Q I h => wpAny_Call_Name_kw (ld_glob I hgl hm ?_ hdb)⟩
  have ar := thn (ha.run pos pins s σ H _ I h) fun us s1 (⟨vs, H1, I1, r, q⟩ : AP X pins σ _ us s1) =>
    show s1.heap = s1.heap ∧ (X.K.In s1.heap ∧ wpAny (model X.prog X.w) X.A (call (.ref f) us) (EP X pins σ Q) X.xe s1) from
      ⟨rfl, I1.kIn, run_fnG F hg hr hb hd hx I1 r q⟩
  exact PySem.W.callWith_K (h₀ := X.base) I.ok.mod.kin hk (thn ar fun us s1 z => z.2) he hpl
end
section
variable {P : Program} {w : World} {K : PySem.W.Frag} {mg : Str → Option Value} {b0 : Heap} {CX : CXT}
theorem fnG_of {k : Nat} {f : Addr} {nm qu : Str} {pa : Arguments} {bd : List Stmt} {sc : Scope}
    {dV kV dc pm cd ct oc : Value} {an od : Option Addr} {sl : Array (Option Value)} {N ps : List Str} {sp : Sp}
    (lk : K.lookup f = some ⟨oc, od, .func (PySem.W.fnOf nm qu pa bd sc dV kV dc pm an cd ct), sl⟩)
    (hcd : PySem.W.codeIn K cd qu = true) (S : FnScope N ps sc)
    (len : ∀ vs H Q E, sp vs H Q E → vs.length = ps.length)
    (hb : ∀ (B : Around) (ou : List Env) (s : Shared) (H : Hp) (vs : List V) (Q : VK) (E : XK),
      B.guards = some [] → Room k (B.deeper (envOfC qu sc s.heap.objs.size f cd)) → sp vs H Q E →
      ∃ t, PSs (cxOf CX P w K mg b0 N qu sc f cd B ou s H E) bd t ∧
        t { nx := fun _ H' => Q .non H', rt := Q } (start N vs) H) :
    FnG P w K mg b0 CX (k + 1) f (PySem.W.fnOf nm qu pa bd sc dV kV dc pm an cd ct) ps sp := by
  refine ⟨len, fun B ou s H ar us vs Q E hg hr e0 hbn r hsp => ?_⟩
  have kIn : K.In s.heap := e0.mod.kin.keeps fun b o e => (e0.bs b o e).1
  have nol : s.heap.NoLimit := e0.mod.nolimit.keeps fun b o e => (e0.bs b o e).1
  refine codeAny_call_function hr.depth (kIn _ _ lk) rfl S.co S.gen rfl (PySem.W.codeRec_of kIn hcd) (hbn _ _ _ _ ?_)
  refine wpAny_newFunctionEnv_cells S.kind (fun y hy => ?_) fun env he s1 x => ?_
  · obtain ⟨n, v⟩ := y
    rcases S.par n (List.of_mem_zip hy).1 with q | q
    · exact .inl q
    · exact .inr ⟨q, PySem.W.cellsFrom_some _ _ _ (.inl q)⟩
  subst he
  refine ⟨nol.keeps x.toInCall.keep, codeAny_func ?_⟩
  obtain ⟨t, ht, hq⟩ := hb B ou s H vs Q E hg (hr.deeper _) hsp
  have I := inv_start (CX := CX) (E := E) S hr.hd e0 (len _ _ _ _ hsp) r x
  refine wpAny_mono (ht.run [] s1 (start N vs) H _ I hq) (fun fl s' hs => ?_) fun _ _ hs => hs
  match fl, hs with
  | .ret u, ⟨v, σ', H', J, rv, q⟩ => exact ⟨v, H', J.os, J.bare, J.base, J.hok, rv, q⟩
  | .next, ⟨σ', H', J, q⟩ => exact ⟨V.non, H', J.os, J.bare, J.base, J.hok, rfl, q⟩
  | .brk, ⟨_, _, _, q⟩ => exact False.elim q
  | .cont, ⟨_, _, _, q⟩ => exact False.elim q
theorem FunG.ok {x qu : Str} {st : Stmt} {f : Addr} {fd : FuncData} {N ps : List Str} {k : Nat} {sp : Sp}
    (F : Fun K x qu st f fd) (S : FnScope N ps (defScope st)) (len : ∀ vs H Q E, sp vs H Q E → vs.length = ps.length)
    (hb : ∀ (cd : Value) (B : Around) (ou : List Env) (s : Shared) (H : Hp) (vs : List V) (Q : VK) (E : XK),
      (B.deeper (envOfC qu (defScope st) s.heap.objs.size f cd)).guards = some [] →
      Room k (B.deeper (envOfC qu (defScope st) s.heap.objs.size f cd)) → sp vs H Q E →
      ∃ t, PSs (cxOf CX0 P w K mg b0 N qu (defScope st) f cd B ou s H E).nox (defBody st) t ∧
        t { nx := fun _ H' => Q .non H', rt := Q } (start N vs) H) :
    FnG P w K mg b0 CX0 (k + 1) f fd ps sp := by
  obtain ⟨oc, od, kV, dc, pm, an, cd, ct, sl, rfl, lk, hcd⟩ := F.ex
  refine fnG_of lk hcd S len fun B ou s H vs Q E hg hr hsp => ?_
  obtain ⟨t, h, q⟩ := hb cd B ou s H vs Q E hg hr hsp
  exact ⟨t, h.nox, q⟩
end
structure Shows (d : PyData) : Prop where
  disp : isDisplay d = true
  show_ : d.showable = true
  nodict : d.hasDict = false
  deep : d.depth ≤ 30
  size : d.shown.length ≤ sizeLine
section
variable {X : Cx}
theorem call_reprD (hg : X.A.guards = some []) (hu : X.A.units + 64 < cLine) :
    CallR X (.builtin "repr") (fun xs H Q => ∃ x d, xs = [x] ∧ Dp X.K H x d ∧ Shows d ∧ Q (.str d.shown) H) := by
  intro pins s σ H xs us Q I r h
  obtain ⟨x, d, rfl, hd, S, q⟩ := h
  obtain ⟨u, rfl, ru⟩ := vals1 r
  obtain ⟨as, rd⟩ := Dp.reads I d x u hd ru
  obtain ⟨a, rfl⟩ := isRef_of_reads rd S.disp
  have hdp := S.deep
  refine repr_of_reads' rd S.show_ (PyData.noDict_hsm S.nodict) hg (by omega) (fun _ _ e => e) (fun h' t tk hk => ?_) S.size
  exact ⟨.str _, H, I.kept hk, ⟨_, rfl⟩, q⟩
end
end TA
set_option maxHeartbeats 2000000
namespace TA
open PySem PySem.Spec PyProof.Rows L2
theorem dpAll_ints (K : PySem.W.Frag) (H : Hp) : ∀ ns : List Int, DpAll K H (ns.map V.int) (ns.map PyData.int)
  | [] => .nil
  | n :: ns => .cons (.int n) (dpAll_ints K H ns)
theorem alikeAll_int (ns : List Int) : PySem.W.AlikeAll (ns.map PyData.int) := by
  refine ⟨fun x hx y hy => ?_, fun x hx => ?_⟩
  · obtain ⟨a, _, rfl⟩ := List.mem_map.mp hx
    obtain ⟨b, _, rfl⟩ := List.mem_map.mp hy
    simp [PySem.W.alike]
  · obtain ⟨a, _, rfl⟩ := List.mem_map.mp hx
    intro z
    cases z
theorem reads_int {h : Heap} {v : Value} {n : Int} {as : List Addr} (r : Reads h v (.int n) as) : RelV (.int n) v := by
  cases r with
  | int _ t => exact ⟨t, rfl⟩
def rMinT (K : PySem.W.Frag) : List V → Hp → VK → Prop := fun vs H Q => ∃ (a : Addr) (n : Int) (ns : List Int), vs = [.ref a] ∧ SqT K H a ((n :: ns).map V.int) ∧ Q (.int (ns.foldl min n)) H
def rMaxT (K : PySem.W.Frag) : List V → Hp → VK → Prop := fun vs H Q => ∃ (a : Addr) (n : Int) (ns : List Int), vs = [.ref a] ∧ SqT K H a ((n :: ns).map V.int) ∧ Q (.int (ns.foldl max n)) H
section
variable {X : Cx}
theorem call_minT (hc : X.calm = true) (hu : X.A.units + 64 < cLine) : CallR X (.builtin "min") (rMinT X.K) := by
  intro pins s σ H vs us Q I r h
  obtain ⟨a, n, ns, rfl, hs, q⟩ := h
  obtain ⟨its, rv, ht, _⟩ := I.tuple hs
  rw [Vals.ref1 r]
  obtain ⟨as, rd⟩ := Dp.readsAll I _ _ its (dpAll_ints X.K H (n :: ns)) rv
  refine PySem.W.min_tuple_data (I.ok.hd hc) ht rd (alikeAll_int (n :: ns)) ?_ fun i v h' tk bs _ r' hk => ?_
  · rw [show (PyData.int n :: ns.map PyData.int) = (n :: ns).map PyData.int from rfl, PySem.W.depth_ints]
    omega
  · rw [PySem.W.minD_ints] at r'
    exact ⟨.int _, H, I.kept hk, reads_int r', q⟩
theorem call_maxT (hc : X.calm = true) (hu : X.A.units + 64 < cLine) : CallR X (.builtin "max") (rMaxT X.K) := by
  intro pins s σ H vs us Q I r h
  obtain ⟨a, n, ns, rfl, hs, q⟩ := h
  obtain ⟨its, rv, ht, _⟩ := I.tuple hs
  rw [Vals.ref1 r]
  obtain ⟨as, rd⟩ := Dp.readsAll I _ _ its (dpAll_ints X.K H (n :: ns)) rv
  refine PySem.W.max_tuple_data (I.ok.hd hc) ht rd (alikeAll_int (n :: ns)) ?_ fun i v h' tk bs _ r' hk => ?_
  · rw [show (PyData.int n :: ns.map PyData.int) = (n :: ns).map PyData.int from rfl, PySem.W.depth_ints]
    omega
  · rw [PySem.W.maxD_ints] at r'
    exact ⟨.int _, H, I.kept hk, reads_int r', q⟩
end
end TA
set_option maxHeartbeats 2000000
namespace TA
open PySem PySem.Spec PyProof.Rows L2
structure Fit (d : PyData) (w dp : Nat) : Prop where
  show_ : d.showable = true
  nodict : d.hasDict = false
  short : d.leavesShort 100 = true
  lay : d.canLay0 = true
  wt : d.weight ≤ w
  dpt : d.depth ≤ dp
structure FitAll (ds : List PyData) (w dp : Nat) : Prop where
  show_ : PyData.showableAll ds = true
  nodict : PyData.hasDictAll ds = false
  short : PyData.leavesShortAll 100 ds = true
  lay : PyData.canLayAll0 ds = true
  wt : PyData.weightAll ds ≤ w
  dpt : PyData.depthAll ds ≤ dp
theorem Fit.up {d : PyData} {w w' dp dp' : Nat} (h : Fit d w dp) (hw : w ≤ w') (hd : dp ≤ dp') : Fit d w' dp' := ⟨h.show_, h.nodict, h.short, h.lay, Nat.le_trans h.wt hw, Nat.le_trans h.dpt hd⟩
theorem FitAll.up {d : List PyData} {w w' dp dp' : Nat} (h : FitAll d w dp) (hw : w ≤ w') (hd : dp ≤ dp') : FitAll d w' dp' := ⟨h.show_, h.nodict, h.short, h.lay, Nat.le_trans h.wt hw, Nat.le_trans h.dpt hd⟩
theorem log2_lt {n k : Nat} (hk : 0 < k) (h : n < 2 ^ k) : n.log2 < k := by
  by_cases z : n = 0
  · rw [z]
    simpa using hk
  · exact (Nat.log2_lt z).mpr h
theorem fit_int {i : Int} {k : Nat} (k0 : 0 < k) (hk : k ≤ 300) (h : i.natAbs < 2 ^ k) : Fit (.int i) k 0 := by
  have l := log2_lt k0 h
  refine ⟨?_, rfl, ?_, rfl, ?_, Nat.le_refl _⟩
  · simp only [PyData.showable, decide_eq_true_eq]
    omega
  · simp only [PyData.leavesShort, decide_eq_true_eq]
    have h2 : i.natAbs < 10 ^ 99 := Nat.lt_of_lt_of_le h (Nat.le_trans (Nat.pow_le_pow_right (by decide) hk) (by decide +kernel))
    have e := int_text_length_le10 (k := 99) (by decide) h2
    show (Str.ofString (toString i)).length ≤ 100
    rw [PySem.ofString_length]
    exact e
  · simp only [PyData.weight]
    split <;> omega
theorem fit_nil : FitAll [] 0 0 := ⟨rfl, rfl, rfl, rfl, Nat.le_refl _, Nat.le_refl _⟩
theorem fit_cons {d : PyData} {ds : List PyData} {w w' dp : Nat} (h : Fit d w dp) (t : FitAll ds w' dp) : FitAll (d :: ds) (w + 1 + w') dp := by
  refine ⟨?_, ?_, ?_, ?_, ?_, ?_⟩
  · simp only [PyData.showableAll, h.show_, t.show_, Bool.and_self]
  · simp only [PyData.hasDictAll, h.nodict, t.nodict, Bool.or_self]
  · simp only [PyData.leavesShortAll, h.short, t.short, Bool.and_self]
  · simp only [PyData.canLayAll0, h.lay, t.lay, Bool.and_self]
  · have h1 := h.wt
    have h2 := t.wt
    simp only [PyData.weightAll]
    omega
  · have h1 := h.dpt
    have h2 := t.dpt
    simp only [PyData.depthAll]
    omega
theorem fit_tuple {ds : List PyData} {w dp : Nat} (h : FitAll ds w dp) : Fit (.tuple ds) w (dp + 1) := by
  have h1 := h.dpt
  refine ⟨by simpa only [PyData.showable] using h.show_, by simpa only [PyData.hasDict] using h.nodict, by simpa only [PyData.leavesShort] using h.short, by simpa only [PyData.canLay0] using h.lay, by simpa only [PyData.weight] using h.wt, ?_⟩
  simp only [PyData.depth]
  omega
theorem Fit.shows {d : PyData} {w dp : Nat} (h : Fit d w dp) (hd : isDisplay d = true) (hw : w ≤ 160000) (hp : dp ≤ 30) : Shows d := by
  refine ⟨hd, h.show_, h.nodict, Nat.le_trans h.dpt hp, ?_⟩
  have h1 := PyData.shown_le 100 (by decide) d h.short
  have h2 := h.wt
  rw [sizeLine_eq]
  omega
theorem Fit.shaped {d : PyData} {w dp : Nat} (h : Fit d w dp) (hp : dp ≤ 64) : SeqAt.shaped d = true := by
  unfold SeqAt.shaped
  rw [h.lay, decide_eq_true (Nat.le_trans h.dpt hp)]
  rfl
abbrev rowD (ns : List Int) : PyData := .list (ns.map .int)
theorem eqv_int (a b : Int) : PyData.eqv (.int a) (.int b) = decide (a = b) := by
  simp only [PyData.eqv]
  by_cases h : a = b
  · rw [h]; simp
  · rw [decide_eq_false h]; simpa using h
theorem eqvAll_int : ∀ xs ys : List Int, PyData.eqvAll (xs.map .int) (ys.map .int) = decide (xs = ys)
  | [], [] => by simp [PyData.eqvAll]
  | [], _ :: _ => by simp [PyData.eqvAll]
  | _ :: _, [] => by simp [PyData.eqvAll]
  | x :: xs, y :: ys => by
    show PyData.eqvAll (.int x :: xs.map .int) (.int y :: ys.map .int) = _
    rw [PyData.eqvAll, eqvAll_int xs ys, eqv_int]
    by_cases h : x = y
    · subst h
      simp
    · rw [decide_eq_false h, decide_eq_false (fun e => h (List.cons.inj e).1)]
      rfl
theorem eqv_row (xs ys : List Int) : PyData.eqv (rowD xs) (rowD ys) = decide (xs = ys) := by
  simp only [PyData.eqv]
  exact eqvAll_int xs ys
end TA
set_option maxHeartbeats 2000000
namespace TA
open PySem PySem.Spec PyProof.Rows L2
theorem over_gx {A : Around} {elt : Expr} {gens : List Comprehension} {scope : Scope} {pos : Pos} {it acc : Value} {cenv : Env} :
    A.over (.compLoop (.GeneratorExp elt gens scope pos) 0 it acc cenv) [] = A.deeper cenv := by
  first
    | rfl
    | (obtain ⟨hd, d, fr, gs, u⟩ := A; simp [Around.over, Around.deeper, marksOver, frameCount, unitsOf, envsOf, guardsOf, pushEnvs, pushGuards, Code.envs, Code.env?, Code.isFrame, Code.guards, Code.isGuard, Code.weight, Code.frames, Code.isCreation, Code.isCaller, Code.cUnits])
structure GxOk (N : List Str) (sc scope : Scope) (own : List (Str × Nat)) : Prop where
  blk : BlkOk N sc scope own
  co : scope.isCoroutine = false
  cell : ∀ y ∈ scope.names, y.2 ≠ .cell
  dot : scope.names.lookup (".0" : Str) = some NameKind.local
def gxC (N : List Str) (sc scope : Scope) (own : List (Str × Nat)) : Bool :=
  blkC N sc scope own && !scope.isCoroutine && scope.names.all (fun y => !(y.2 == .cell)) && (scope.names.lookup (".0" : Str) == some NameKind.local)
theorem gxOk_by {N : List Str} {sc scope : Scope} {own : List (Str × Nat)} (h : gxC N sc scope own = true) : GxOk N sc scope own := by
  unfold gxC at h
  simp only [Bool.and_eq_true, List.all_eq_true, Bool.not_eq_true', beq_iff_eq] at h
  obtain ⟨⟨⟨h1, h2⟩, h3⟩, h4⟩ := h
  refine ⟨blkOk_by h1, h2, fun y hy e => ?_, h4⟩
  have := h3 y hy
  rw [e] at this
  exact absurd this (by decide)
abbrev gxCx (X : Cx) (A : Around) (s : Shared) (H : Hp) (cenv : Env) (fp : List Addr) (pn : List (Addr × Obj)) : Cx :=
  { X with A := A.deeper cenv, s_0 := s, H_0 := H, env := cenv, outer := X.stack, stack := cenv :: X.stack, ex := fp, fn := fun _ => false, calm := true, pn := pn, xe := fun _ _ => False }
section
variable {X : Cx} {pins : List (Addr × Obj)} {σ : L2.St} {H : Hp} {s : Shared}
abbrev gxEnv (X : Cx) (scope : Scope) (C : Addr) (code : Value) : Env := genEnv scope (cloFrom X.env.cells scope.names []) C code builtinsNs X.env
theorem gx_start {scope : Scope} {own : List (Str × Nat)} {fp : List Addr} {A : Around} {code itv : Value} {s2 : Shared} {pn pw : List (Addr × Obj)} (I : Inv X pins σ H s) (ok : GxOk X.N X.env.scope scope own) (hN : X.N.Nodup) (hfp : ∀ b ∈ fp, FpOk X pins H b ∧ b < s.heap.objs.size)
    (hd : A.handled = none) (hfr : A.frames = some X.stack) (hos : s2.os = s.os) (hb : AllBare s2.gens) (hns : s2.heap.Ns s.heap.objs.size (fun y => if y = ".0" then some itv else none)) (kp : ∀ b o, s.heap.get? b = some o → s2.heap.get? b = some o)
    (hpn : ∀ p ∈ pn ++ pw, s2.heap.get? p.1 = some p.2 ∧ s.heap.objs.size < p.1 ∧ ∀ v, p.2.data ≠ .cell v) :
    Inv (gxCx X A s H (gxEnv X scope s.heap.objs.size code) fp pn) pw (wipe σ (own.map (·.2))) H s2 := by
  have hfree : ∀ y ∈ scope.names, y.2 = .free → ∃ c, X.env.cells.lookup y.1 = some c := fun y hy e => by
    rcases ok.blk.free y hy e with k | k
    · exact I.ok.has _ (.inl k)
    · exact I.ok.has _ (.inr k)
  have cm : ∀ {y c}, (y, c) ∈ cloFrom X.env.cells scope.names [] → X.env.cells.lookup y = some c ∧ c < s.heap.objs.size := fun {y c} hm => by
    rcases cloFrom_mem hm with hm | ⟨h1, rfl⟩
    · cases hm
    · obtain ⟨c, hc⟩ := hfree _ h1 rfl
      rw [hc]
      obtain ⟨w, z⟩ := I.cell _ _ hc
      exact ⟨rfl, z.lt⟩
  have mem : ∀ {y c}, (cloFrom X.env.cells scope.names []).lookup y = some c → X.env.cells.lookup y = some c ∧ c < s.heap.objs.size := fun {y c} e => cm (PySem.mem_of_lookup e)
  have look : ∀ {y}, scope.names.lookup y = some .free → ∃ c, (cloFrom X.env.cells scope.names []).lookup y = some c ∧ X.env.cells.lookup y = some c := fun {y} hl => by
    obtain ⟨c', e'⟩ := mem_lookup (cloFrom_has (cells := X.env.cells) (acc := []) (PySem.mem_of_lookup hl))
    exact ⟨c', e', (mem e').1⟩
  have okG : (gxCx X A s H (gxEnv X scope s.heap.objs.size code) fp pn).Ok := by
    refine ⟨I.ok.mod, ok.blk.kind, I.ok.glob, rfl, Nat.le_refl _, fun y z c e1 e2 => I.ok.inj y z c (mem e1).1 (mem e2).1, fun y hy => ?_, fun y c z e => (by cases z), fun _ => hd, Around.frames_deeper hfr, .inr ⟨rfl, rfl⟩,
      fun b hb => ⟨Nat.ne_of_lt (hfp b hb).2, fun y c e z => (hfp b hb).1.2.2.2.2.1 y c (mem e).1 z⟩, I.bs, Nat.le_trans I.ok.bsz I.sz, fun b o e hb => ?_, fun b hb z => ?_, I.stack, I.stkFree⟩
    · have key : ∀ k, scope.names.lookup y = some k → (k = .cell ∨ k = .free) → ∃ c, (cloFrom X.env.cells scope.names []).lookup y = some c := fun k hk hk' => by
        rcases hk' with rfl | rfl
        · exact absurd rfl (ok.cell _ (PySem.mem_of_lookup hk))
        · obtain ⟨c, h1, _⟩ := look hk
          exact ⟨c, h1⟩
      rcases hy with hy | hy
      · exact key _ hy (.inl rfl)
      · exact key _ hy (.inr rfl)
    · rcases (hfp b hb).1.2.2.2.1 with z | z
      · exact I.ok.noex b o e z
      · exact absurd (Nat.lt_of_lt_of_le (Heap.lt_size e) (Nat.le_trans I.ok.bsz z)) (Nat.lt_irrefl _)
    · rcases List.mem_cons.mp (I.stkSub b z) with z | z
      · exact (hfp b hb).1.2.1 z
      · exact (hfp b hb).1.2.2.1 z
  refine ⟨okG, hos, hb, Un.kept kp, ⟨_, hns, fun i y av e1 e2 e3 => ?_⟩, fun y c e => ?_, I.hok.fresh (Nat.le_refl _), fun y c e => I.freeC y c (mem e).1, fun p hp => ?_, I.hok.kept kp, by rw [wipe_length]; exact I.len⟩
  · obtain ⟨e2, hne⟩ := wipe_some e2
    have no : ∀ k, scope.names.lookup y = some k → ¬ (k = .local ∨ k = .cell) := fun k hk hh => by
      rcases ok.blk.own _ (PySem.mem_of_lookup hk) hh with e' | e'
      · obtain ⟨p, hp, hpy⟩ := List.mem_map.mp e'
        have e3 := ok.blk.ix p hp
        have : p.1 = y := hpy
        rw [this] at e3
        exact hne (List.mem_map.mpr ⟨p, hp, nodup_ix hN e3 e1⟩)
      · exact e' (List.mem_of_getElem? e1)
    have hfr : scope.names.lookup y = some .free := by
      have e3 : Vis scope y := e3
      rcases e3 with e3 | e3 | e3
      · exact absurd (.inl rfl) (no _ e3)
      · exact absurd (.inr rfl) (no _ e3)
      · exact e3
    obtain ⟨m, hn, hl⟩ := I.loc
    have hvis : Vis X.env.scope y := (ok.blk.free _ (PySem.mem_of_lookup hfr) rfl).elim (fun k => .inr (.inl k)) (fun k => .inr (.inr k))
    obtain ⟨w, r, q⟩ := hl i y av e1 e2 hvis
    refine ⟨w, r, .inr ⟨.inr hfr, ?_⟩⟩
    obtain ⟨c, h1, h2⟩ := look hfr
    rcases q with ⟨k, _⟩ | ⟨_, c', e', z⟩
    · have k : X.env.scope.names.lookup y = some .local := k
      rcases ok.blk.free _ (PySem.mem_of_lookup hfr) rfl with k' | k' <;> rw [show X.env.scope.names.lookup y = _ from k'] at k <;> cases k
    · rw [h2] at e'
      cases e'
      exact ⟨c, h1, z.keeps kp⟩
  · obtain ⟨w, z⟩ := I.cell y c (mem e).1
    exact ⟨w, z.keeps kp⟩
  · obtain ⟨h1, h2, h3⟩ := hpn p hp
    have hge : s.heap.objs.size ≤ p.1 := Nat.le_of_lt h2
    refine ⟨h1, I.hok.fresh hge, Nat.ne_of_gt h2, fun hm => ?_, h3⟩
    rcases List.mem_cons.mp (I.stkSub p.1 hm) with z | z
    · rw [z] at hge
      exact absurd (Nat.lt_of_lt_of_le I.lt hge) (Nat.lt_irrefl _)
    · exact I.nofs hge z
end
def GxTurn (J : It) (g : TG) (tt : TT) (te : TE) (vs : List Nat) (σw : L2.St) (W : Nat → Nat → List V → Hp → Prop) (Qc : List V → Hp → Prop) : Prop :=
  ∀ i m ys H, W i m ys H → (J.stop i H ∧ Qc ys H) ∨ (J.go i H ∧ ∃ Nx : List V → Hp → Prop, (∀ ys' H', Nx ys' H' → ∃ m', m' < m ∧ W (i + 1) m' ys' H') ∧
    ∀ x H', J.yld i H x H' → g x σw H' fun σ2 H2 => wipe σ2 vs = σw ∧ tt σ2 H2 fun b H3 => if b = true then te σ2 H3 fun y H4 => ys.length < sizeLine ∧ Nx (ys ++ [y]) H4 else Nx ys H3)
section
variable {Y : Cx} {A : Around} {elt tg iter : Expr} {ifs : List Expr} {scope : Scope} {gpos : Pos} {fp : List Addr} {it S a : Addr} {gn : Nat} {tn : Nat → Heap → Prop} {J : It} {g : TG} {tt : TT} {te : TE} {vs : List Nat} {σw : L2.St}
theorem gx_loop {W : Nat → Nat → List V → Hp → Prop} {Qc : List V → Hp → Prop} {E : XK} (hA : A.over (.compLoop (.GeneratorExp elt [⟨tg, iter, ifs, 0⟩] scope gpos) 0 (.ref it) .none Y.env) [] = Y.A) (hc : Y.calm = true) (hxe : Y.xe = fun _ _ => False)
    (hco : Y.env.scope.isCoroutine = false) (T : Turn Y.prog Y.w Y.K tg J fp it tn) (pg : PG Y tg g) (pt : PTs Y ifs tt) (pe : PE Y elt te) (apart : Apart Y S) (hpnS : ∀ p ∈ Y.pn, p.1 ≠ S) (hfpS : ∀ b ∈ fp, b ≠ S) (hex : ∀ b ∈ fp, b ∈ Y.ex) (hpf : ∀ p ∈ Y.pn, ∀ b ∈ fp, p.1 ≠ b)
    (hgen : ∀ {pins : List (Addr × Obj)} {σ : L2.St} {H : Hp} {s : Shared}, Inv Y pins σ H s → s.heap.IsGen a gn) (turn : GxTurn J g tt te vs σw W Qc) :
    ∀ (m i : Nat) (ys : List V) (n : Nat) (s₀ s : Shared) (H : Hp), n + ys.length = sizeLine → GI Y S [] ys σw H s → tn i s.heap → (∀ b ∈ fp, H b = none) → W i m ys H →
      Seg (model Y.prog Y.w) A (REnd Y.prog Y.w Y.outer Y.H_0 Y.s_0 Y.ex S a gn Qc E) (YItem Y.s_0 S a gn) n s₀
        (.compLoop (.GeneratorExp elt [⟨tg, iter, ifs, 0⟩] scope gpos) 0 (.ref it) .none Y.env) ((model Y.prog Y.w).den (.compLoop (.GeneratorExp elt [⟨tg, iter, ifs, 0⟩] scope gpos) 0 (.ref it) .none Y.env)) [] s := by
  intro m
  induction m using Nat.strongRecOn with
  | ind m ih =>
    intro i ys n s₀ s H hn hI st nfp w
    have stat : ∀ {acc : Array Value} {c : Nat} {σ' : L2.St} {H' : Hp} {s' : Shared}, Inv Y [(S, lstObj acc c)] σ' H' s' → (∀ b ∈ fp, H' b = none) → ∀ b ∈ fp, FpOk Y [(S, lstObj acc c)] H' b := fun {acc c σ' H' s'} I' hn b hb =>
      ⟨hn b hb, (I'.ok.exf b (hex b hb)).1, I'.ok.exfs b (hex b hb), .inl (hex b hb), fun x c e => (I'.ok.exf b (hex b hb)).2 x c e, fun p hp => by
        rcases List.mem_append.mp hp with z | z
        · exact hpf p z b hb
        · rw [List.mem_singleton.mp z]
          exact fun e => hfpS b hb e.symm⟩
    obtain ⟨acc, cc, rv, I⟩ := hI
    show Seg _ A _ _ _ s₀ _ ((compTurn (.GeneratorExp elt [⟨tg, iter, ifs, 0⟩] scope gpos) 0 (.ref it) .none Y.env).onRaise (leaving Y.env)) [] s
    rw [compTurn_gen, Sem.onRaise_eq_wrap]
    refine seg_bind_wrap (wpAny_standAt ?_)
    rcases turn i m ys H w with ⟨stop, qq⟩ | ⟨go, Nx, hNx, step⟩
    · have td := T.done Y rfl rfl rfl hc i _ s _ H (fun _ _ => False) I (stat I nfp) st stop
      refine seg_bind_wrap ?_
      rw [hA]
      refine thnF td fun r s6 ⟨hr, I6⟩ => ?_
      subst hr
      refine seg_end (.ok .next) (.inl ⟨.inr rfl, H, ys, acc, cc, I6.os, I6.bare, I6.base, I6.hok, ?_, ?_, rv, by omega, qq⟩)
      · exact (I6.pin (S, lstObj acc cc) (List.mem_append_right _ List.mem_cons_self)).2.1
      · exact (I6.pin (S, lstObj acc cc) (List.mem_append_right _ List.mem_cons_self)).1
    · have ti := T.item Y rfl rfl rfl hc i _ s _ H (fun _ _ => False) I (stat I nfp) st go
      refine seg_bind_wrap ?_
      rw [hA]
      refine thnF ti fun r s6 ⟨u, hr, h6⟩ => ?_
      subst hr
      refine seg_bind_wrap ?_
      rw [hA]
      refine thnF h6 fun _ s7 ⟨x, H7, I7, r7, y7, st7, n7⟩ => ?_
      have I7' := I7.pinned (stat I7 n7) (T.obj _ _ st7)
      refine seg_bind_wrap ?_
      rw [hA]
      have pgr := pg.run _ s7 _ H7 x u _ I7' r7 (step x H7 y7)
      rw [hxe] at pgr
      refine thnF pgr fun _ s8 ⟨σ8, H8, I8, hw8, q8⟩ => ?_
      refine seg_bind_wrap ?_
      rw [hA]
      have ptr := pt.run _ s8 σ8 H8 _ I8 q8
      rw [hxe] at ptr
      refine thnF ptr fun b s9 ⟨H9, I9, q9⟩ => ?_
      have fin : ∀ {zs : List V} {s' : Shared} {H' : Hp}, GI Y S (pinsAt fp s7.heap) zs σ8 H' s' → GI Y S [] zs σw H' s' ∧ tn (i + 1) s'.heap ∧ ∀ b ∈ fp, H' b = none := fun {zs s' H'} hG => by
        obtain ⟨acc', cc', rv', I'⟩ := hG
        have pin' : ∀ b ∈ fp, ∀ o, s7.heap.get? b = some o → s'.heap.get? b = some o ∧ H' b = none := fun b hb o e =>
          let z := I'.pin (b, o) (List.mem_append_right _ (List.mem_cons_of_mem _ (mem_pinsAt hb e)))
          ⟨z.1, z.2.1⟩
        have hl : σw.length = σ8.length := by rw [← hw8, wipe_length]
        refine ⟨⟨acc', cc', rv', ((I'.pins_of fun p hp => I'.pin p (List.mem_append_right _ (by rw [List.mem_singleton.mp hp]; exact List.mem_cons_self))).weak hl fun j v e => ?_)⟩, T.keep _ _ _ st7 fun b hb o e => (pin' b hb o e).1, fun b hb => ?_⟩
        · rw [← hw8] at e
          exact (wipe_some e).1
        · obtain ⟨o, e, _⟩ := T.obj _ _ st7 b hb
          exact (pin' b hb o e).2
      cases b with
      | false =>
        simp only [Bool.false_eq_true, if_false] at q9 ⊢
        obtain ⟨m', hm, w'⟩ := hNx ys H9 q9
        obtain ⟨g1, g2, g3⟩ := fin ⟨acc, cc, rv, I9⟩
        exact seg_again rfl (ih m' hm (i + 1) ys n s₀ _ H9 hn g1 g2 g3 w')
      | true =>
        simp only [if_true] at q9 ⊢
        have hy : ∀ v, yieldOut Y.env v = yieldValue v := fun v => by simp only [yieldOut, hco, Bool.false_eq_true, if_false]
        simp only [hy]
        rw [Sem.bind_eq_wrap', Sem.bind_eq_wrap', Sem.wrap_wrap, Sem.wrap_wrap]
        refine seg_wrap ?_
        rw [hA]
        have per := pe.run _ s9 σ8 H9 _ I9 q9
        rw [hxe] at per
        refine thnF per fun z s10 ⟨yv, H10, I10, r10, hlt, nx⟩ => ?_
        obtain ⟨n', rfl⟩ : ∃ n', n = n' + 1 := ⟨n - 1, by omega⟩
        have G10 : GI Y S (pinsAt fp s7.heap) ys σ8 H10 s10 := ⟨acc, cc, rv, I10⟩
        obtain ⟨m', hm, w'⟩ := hNx (ys ++ [yv]) H10 nx
        have hS10 := (I10.pin (S, lstObj acc cc) (List.mem_append_right _ List.mem_cons_self)).1
        have hacc : acc.size = ys.length := by rw [rv.length, Array.length_toList]
        refine seg_at (seg_yield rfl rfl rfl ⟨I10.os, I10.bare, I10.nolimit, hgen I10, ⟨acc, cc, hS10, by omega⟩, fun s'' zz => ?_⟩)
        have G11 := G10.woken hpnS (fun p hp => hfpS _ (of_pinsAt hp).1) apart r10 zz
        obtain ⟨g1, g2, g3⟩ := fin G11
        refine seg_again rfl (ih m' hm (i + 1) (ys ++ [yv]) n' s'' s'' H10 ?_ g1 g2 g3 w')
        rw [List.length_append, List.length_singleton]
        omega
end
end TA
set_option maxHeartbeats 4000000
namespace TA
open PySem PySem.Spec PyProof.Rows L2
open GxR (TabB TabG Tabbed)
def tGx (P : Addr) (wi : TI) (g : TG) (tt : TT) (te : TE) (vs : List Nat) : L2.St → Hp → (List V → Hp → Prop) → Prop := fun σ H Qc =>
  wi σ H fun J H1 => TabG H1 P ∧ ∀ H2, Tabbed P H1 H2 → ∃ W : Nat → Nat → List V → Hp → Prop, (∃ m, W 0 m [] H2) ∧ GxTurn J g tt te vs (wipe σ vs) W Qc
end TA
set_option maxHeartbeats 4000000
namespace TA
open PySem PySem.Spec PyProof.Rows L2
theorem collect_gm {P : Program} {w : World} {ou : List Env} {H : Hp} {sc s : Shared} {ex : List Addr} {Qc : List V → Hp → Prop} {B : Around} {k : Nat} {u : Value} {Q' : List Value → Shared → Prop} {E : Value → Shared → Prop}
    (hr : Room k B.in1.in1) (hd : B.depth < recursionLimit) (hfr : B.frames = some ou) (h : GMade P w k ou H sc ex Qc E0 u s)
    (hQ : ∀ (s' : Shared) (acc : Array Value) (H' : Hp) (ys : List V), Vals ys acc.toList → ys.length ≤ sizeLine → s'.os = sc.os → AllBare s'.gens → Un (frs ou) ex H H' sc.heap s'.heap → HOk P w H' s'.heap → Qc ys H' → Q' acc.toList s') :
    wpAny (model P w) B (collect u) Q' E s := by
  obtain ⟨a, g, c, rfl, ha1, ha2, hg, hgs, hos, hb, hl, hkp, wake⟩ := h
  have hSa : s.heap.objs.size ≠ a := Nat.ne_of_gt ha2
  have hcl : cStatics < s.heap.objs.size := let ⟨_, hn, _⟩ := hl; hn.lt
  have hSc : s.heap.objs.size ≠ cStatics := Nat.ne_of_gt hcl
  unfold collect
  refine wpAny_bind (wpAny_runValue (codeAny_builtin F.entry_proto_collect ?_))
  rw [Around.under_plainId F.plain_proto_collect _]
  show wpAny _ B.in1 (newList [] >>= fun l => again (.builtin "list.__iadd__" ⟨[l, .ref a], []⟩)) _ _ s
  refine wpAny_bind (wpAny_newObj_type ?_)
  refine wpAny_pure ⟨plainId_quiet F.plain_list_iadd _, codeAny_builtin F.entry_list_iadd ?_⟩
  rw [Around.under_plainId F.plain_list_iadd _]
  show wpAny _ B.in1 (Builtin.List.listExtendWith (.ref s.heap.objs.size) (.ref a) (.ref s.heap.objs.size)) _ _ _
  have up : ∀ (h : Heap) (f : Obj → Obj), (∀ b o, s.heap.get? b = some o → h.get? b = some o) → ∀ b o, s.heap.get? b = some o → (h.update s.heap.objs.size f).get? b = some o := fun h f q b o e =>
    (Heap.get?_update_other _ _ (Ne.symm (Nat.ne_of_lt (Heap.lt_size e)))).trans (q b o e)
  have k1 : ∀ b o, s.heap.get? b = some o → (s.heap.push { cls := .type "list", data := .seq ([] : List Value).toArray }).get? b = some o := fun b o e => Heap.get?_push_of_some _ e
  have gty : ∀ {h : Heap}, (∀ b o, s.heap.get? b = some o → h.get? b = some o) → h.IsGen a g := fun {h} q => hg.keeps q
  unfold Builtin.List.listExtendWith
  refine wpAny_bind (wpAny_typeOf (Heap.IsGen.typeIs (s := { s with heap := _ }) (gty k1)) ?_)
  have h1 : Builtin.List.listSameRef (.ref s.heap.objs.size) (.ref a) = false := by simp [Builtin.List.listSameRef, hSa]
  have h2 : (Value.type "generator" == Value.type "list") = false := by decide
  have h3 : (Value.type "generator" == Value.type "tuple") = false := by decide
  simp only [h1, h2, h3, Bool.or_false, Bool.false_eq_true, if_false]
  refine wpAny_bind (wpAny_pyIter_gen (s := { s with heap := _ }) (gty k1) ?_)
  refine wpAny_bind (wpAny_holding ?_)
  unfold Builtin.List.listLengthHint
  refine wpAny_bind (wpAny_specialOf (Heap.IsGen.typeIs (s := { s with heap := _ }) (gty k1)) F.gen_no_len ?_)
  show wpAny _ B.in1 (specialOf (Value.ref a) (Str.ofString "__length_hint__") >>= _) _ _ _
  refine wpAny_bind (wpAny_specialOf (Heap.IsGen.typeIs (s := { s with heap := _ }) (gty k1)) F.gen_no_hint ?_)
  refine wpAny_pure ?_
  show wpAny _ B.in1 (rule "list.extend.makes-room" >>= fun _ => Builtin.List.listTouch (.ref s.heap.objs.size) >>= fun _ =>
    again (.builtin "list.extend.loop" ⟨[.ref s.heap.objs.size, .ref a, .ref s.heap.objs.size], []⟩)) _ _ _
  refine wpAny_bind (wpAny_rule ?_)
  have hS1 : (s.heap.push { cls := .type "list", data := .seq ([] : List Value).toArray }).get? s.heap.objs.size = some { cls := .type "list", data := .seq ([] : List Value).toArray } := Heap.get?_push_size _ rfl
  refine wpAny_bind ?_
  show wpAny _ B.in1 (updateSeq s.heap.objs.size (·.push .none) >>= fun _ => updateSeq s.heap.objs.size (·.pop)) _ _ _
  refine wpAny_bind (wpAny_updateSeq hS1 rfl ?_)
  have hS2 := Heap.get?_update_self (Obj.mapSeq (·.push Value.none)) hS1 rfl
  refine wpAny_updateSeq hS2 rfl ?_
  have hS3 := Heap.get?_update_self (Obj.mapSeq (·.pop)) hS2 rfl
  have k3 := up _ (Obj.mapSeq (·.pop)) (up _ (Obj.mapSeq (·.push Value.none)) k1)
  refine wpAny_pure ⟨plainId_quiet F.plain_extend_loop _, ?_⟩
  refine drain (P := P) (w := w) (outer := ou) (H := H) (sc := sc) (ex := ex) (Q := Qc) (EX := E0) (A := B) (g := g) hr.hd hd hSa hSc
    (fun s' acc c' H' ys q1 q2 q3 q4 q5 q6 q7 q8 q9 => ?_) (fun e s' hc => ?_) sizeLine _ (gty k3) (hl.keeps k3) ⟨_, hgs, rfl, ?_⟩
  · show wpAny _ B (load s.heap.objs.size >>= _) _ _ s'
    refine wpAny_bind (wpAny_load q1 ?_)
    exact wpAny_pure (hQ s' acc H' ys q2 q3 q4 q5 q6 q7 q9)
  · obtain ⟨_, _, _, _, _, _, _, _, _, _, _, _, z⟩ := hc
    exact z.elim
  · exact wake _ _ _ hr hfr (Nat.le_refl _) k3 ⟨_, hS3⟩ hos (allBare_setGen (s := { s with heap := _ }) hb rfl)
theorem Room.in4 {k : Nat} {A : Around} (r : Room (k + 1) A) : Room k A.in1.in1.in1.in1 :=
  ⟨r.hd, by have := r.dp; show A.depth + 3 * k + 5 < _; omega, by have := r.un; show A.units + 1 + 1 + 1 + 1 + 16 * k + 200 < _; omega⟩
section
variable {P : Program} {w : World} {ou : List Env} {H : Hp} {sc s : Shared} {ex : List Addr} {Qc : List V → Hp → Prop} {k : Nat} {u : Value} {E : Value → Shared → Prop}
theorem code_tuple_gm {B : Around} {Q1 : Value → Shared → Prop} (hr : Room k B.in1.in1.in1) (hd : B.depth < recursionLimit) (hfr : B.frames = some ou) (h : GMade P w k ou H sc ex Qc E0 u s)
    (hQ : ∀ (s' : Shared) (acc : Array Value) (H' : Hp) (ys : List V), Vals ys acc.toList → ys.length ≤ sizeLine → s'.os = sc.os → AllBare s'.gens → Un (frs ou) ex H H' sc.heap s'.heap → HOk P w H' s'.heap → Qc ys H' →
      Q1 (.ref s'.heap.objs.size) { s' with heap := s'.heap.push { cls := .type "tuple", data := .seq acc } }) :
    codeAny (model P w) B (.call (.builtin "tuple.__new__") ⟨[.type "tuple", u], []⟩) (wants Q1 E) s := by
  have hG := h
  obtain ⟨a, g, c, rfl, _, _, hg, _⟩ := h
  refine codeAny_of_tree ?_
  show wpAny _ B.in1 (do checkBuiltinCall "tuple.__new__" ⟨[.type "tuple", .ref a], []⟩; again (.builtin "tuple.__new__" ⟨[.type "tuple", .ref a], []⟩)) _ _ s
  refine wpAny_bind (wpAny_of_eq (F.newCall_tuple_1 _) (wpAny_pure ⟨plainId_quiet F.plain_tuple_new _, codeAny_builtin F.entry_tuple_new ?_⟩))
  rw [Around.under_plainId F.plain_tuple_new _]
  have hsub := sub_tuple_self
  have hinit := init_tuple_lookup
  have hmh := madeHere_tuple
  have hTI : s.TypeIs (.ref a) "generator" := hg.typeIs
  wp_walk using wpAny_typeOf hTI, collect_gm (B := B.in1) hr hd hfr hG
  intro s' acc H' ys q1 q2 q3 q4 q5 q6 q7
  show wpAny _ _ (Builtin.Tuple.tupleExact acc.toList.toArray >>= fun v => ret v) _ _ _
  unfold Builtin.Tuple.tupleExact
  refine wpAny_bind (wpAny_newObj_type ?_ (by show acc.toList.toArray.size ≤ sizeLine; rw [List.size_toArray, ← q1.length]; exact q2))
  refine wpAny_pure ?_
  have e : acc.toList.toArray = acc := by simp
  rw [e]
  exact hQ s' acc H' ys q1 q2 q3 q4 q5 q6 q7
theorem call_tuple_gm {A : Around} {Q' : Value → Shared → Prop} (hr : Room (k + 1) A) (hfr : A.frames = some ou) (h : GMade P w k ou H sc ex Qc E0 u s)
    (hQ : ∀ (s' : Shared) (acc : Array Value) (H' : Hp) (ys : List V), Vals ys acc.toList → ys.length ≤ sizeLine → s'.os = sc.os → AllBare s'.gens → Un (frs ou) ex H H' sc.heap s'.heap → HOk P w H' s'.heap → Qc ys H' →
      Q' (.ref s'.heap.objs.size) { s' with heap := s'.heap.push { cls := .type "tuple", data := .seq acc } }) :
    wpAny (model P w) A (call (.type "tuple") [u]) Q' E s := by
  have hd := hr.depth
  have hr4 := Room.in4 hr
  obtain ⟨a, g, c, rfl, r⟩ := id h
  refine callType_codes (Q₁ := fun obj s₁ => s₁.TypeIs obj "tuple" ∧ Q' obj s₁) F.called_tuple (F.typeCall_tuple_1 _) F.entry_object_init
    (code_tuple_gm (B := A.in1) hr4 hd hfr h fun s' acc H' ys q1 q2 q3 q4 q5 q6 q7 => ⟨⟨_, Heap.get?_push_size _ rfl, rfl⟩, hQ s' acc H' ys q1 q2 q3 q4 q5 q6 q7⟩) fun obj s₁ h₁ => ?_
  exact ⟨h₁.1, F.args_object_init_2 obj _, object_init_meets F.called_tuple.init.lookup F.called_tuple.made (by decide) P w A.in1 _ s₁ ⟨h₁.1, rfl, h₁.2⟩⟩
end
section
variable {X : Cx} {k : Nat} {p pos : Pos}
theorem Inv.drained0 {pins : List (Addr × Obj)} {σ : L2.St} {H H' : Hp} {sc s' : Shared} {ex : List Addr} (I : Inv X pins σ H sc) (hex : ExOk X pins ex) (os : s'.os = sc.os) (hb : AllBare s'.gens) (un : Un (frs X.stack) ex H H' sc.heap s'.heap) (hok : HOk X.prog X.w H' s'.heap) : Inv X pins σ H' s' :=
  I.call' (ch := ex) os un hok hb hex
def tTupG (tg : TGen) : TE := fun σ H Q => tg σ H fun out H2 => ∀ q, H2 q = none → Q (.ref q) (upd H2 q (.tup out))
theorem pe_tupGx {e : Expr} {tg : TGen} (h : PGen X k e tg E0) (hr : Room (k + 1) X.A) (hg : Gl X "tuple") (hmg : X.mg "tuple" = none)
    (he : starEach [e] X.env = (false, eval e X.env) :: starEach [] X.env := by rfl) : PE X (.Call (.Name "tuple" p) [e] [] pos) (tTupG tg) := by
  refine ⟨fun pins s σ H Q I hq => ?_⟩
  refine wpAny_Call_Name_kw (ld_blt I hg hmg boot_tuple ?_ (by decide) (by decide))
  refine PyProof.Rows.callWith_type1 ?_ he rfl
  rw [he]
  show wpAny _ _ (spliced ((false, eval e X.env) :: backTo pos (starEach [] X.env))) _ _ s
  refine Calls.spliced_cons (thn (h.run pins s σ H _ I hq) fun u s1 ⟨H1, sc, ex, I1, hex, hG⟩ => ?_)
  refine Calls.spliced_nil ?_
  refine call_tuple_gm hr I1.ok.frames hG fun s' acc H' ys q1 q2 q3 q4 q5 q6 q7 => ?_
  have J := Inv.drained0 I1 hex q3 q4 q5 q6
  refine ⟨.ref s'.heap.objs.size, upd H' s'.heap.objs.size (.tup ys), J.laid (t' := s'.toks) (fun b o e => Heap.get?_push_of_some _ e) (Nat.le_refl _) ⟨q2, acc.toList, q1, ⟨_, Heap.get?_push_size _ rfl, rfl, _, by simp; rfl⟩⟩, rfl, q7 _ (J.hok.fresh (Nat.le_refl _))⟩
end
end TA
set_option maxHeartbeats 4000000
namespace TA
open PySem PySem.Spec PyProof.Rows L2
open AutoSeq1 (wpAny_loadPart')
theorem meets_enumT (l : Addr) (items : Array Value) (n : Nat) (dct : Option Addr) (sl : Array (Option Value)) :
    Meets (Builtin.«enumerate.__new__» ⟨[.type "enumerate", .ref l], []⟩) (fun _ R s => s.heap.get? l = some { cls := .type "tuple", dict := dct, data := .seq items n, slots := sl } ∧
      R (.ok (.ret (.ref (s.heap.push { cls := .type "tuple_iterator", data := .fields #[.ref l, .int 0 0] }).objs.size)))
        { s with heap := (s.heap.push { cls := .type "tuple_iterator", data := .fields #[.ref l, .int 0 0] }).push { cls := .type "enumerate", data := .fields #[.none, .bool false, .ref s.heap.objs.size, rawInt 0, .none, .none] } }) :=
  .of_wp fun prog w A R s h => by
    obtain ⟨hp, g, d, tk, os⟩ := s
    obtain ⟨hl, h⟩ := h
    have hsub := sub_enumerate
    have hL : Heap.IsTuple (Shared.heap ⟨hp, g, d, tk, os⟩) l items := ⟨_, hl, rfl, n, rfl⟩
    wp_walk using wpAny_loadPart' hl
    refine wpAny_stack_any fun st => wpAny_pure ?_
    split
    · rename_i c _ _ _ _ _
      cases (c == Value.type "enumerate")
      · wp_walk using wpAny_loadPart' hl, wpAny_pyIter_tuple hL
        exact ⟨_, rfl, h⟩
      · wp_walk using wpAny_loadPart' hl, wpAny_pyIter_tuple hL
        exact ⟨_, rfl, h⟩
    · wp_walk using wpAny_loadPart' hl, wpAny_pyIter_tuple hL
      exact ⟨_, rfl, h⟩
theorem call_enumT {prog : Program} {w : World} {A : Around} {E : Value → Shared → Prop} {s : Shared} {l : Addr} {items : Array Value} {Q : Value → Shared → Prop} (hL : s.heap.IsTuple l items)
    (h : ∀ h', IsEnum h' (s.heap.objs.size + 1) s.heap.objs.size 0 .none → h'.IsTupleIter s.heap.objs.size l 0 → h'.objs.size = s.heap.objs.size + 2 →
      (∀ b o, s.heap.get? b = some o → h'.get? b = some o) → Q (.ref (s.heap.objs.size + 1)) { s with heap := h' }) :
    wpAny (model prog w) A (call (.type "enumerate") [.ref l]) Q E s := by
  obtain ⟨⟨c, dct, dt, sl⟩, hl, hc, n, hd⟩ := hL
  replace hc : c = .type "tuple" := hc
  replace hd : dt = .seq items n := hd
  subst hc hd
  refine callType_new F.called_enumerate (by decide) (F.typeCall_enumerate_1 _) (F.newCall_enumerate_1 _) (fun obj => F.args_object_init_2 obj _) F.entry_enumerate_new
    (meets_enumT l items n dct sl) ⟨hl, ?_⟩
  have hz : (s.heap.push { cls := .type "tuple_iterator", data := .fields #[.ref l, .int 0 0] }).objs.size = s.heap.objs.size + 1 := Heap.size_push ..
  show _ ∧ _
  rw [hz]
  have he : IsEnum ((s.heap.push { cls := .type "tuple_iterator", data := .fields #[.ref l, .int 0 0] }).push
      { cls := .type "enumerate", data := .fields #[.none, .bool false, .ref s.heap.objs.size, rawInt 0, .none, .none] }) (s.heap.objs.size + 1) s.heap.objs.size 0 .none := by
    have := Heap.get?_push_size (s.heap.push { cls := .type "tuple_iterator", data := .fields #[.ref l, .int 0 0] })
      (o := { cls := .type "enumerate", data := .fields #[.none, .bool false, .ref s.heap.objs.size, rawInt 0, .none, .none] }) rfl
    rw [hz] at this
    exact this
  exact ⟨⟨_, he, rfl⟩, h _ he ⟨_, Heap.get?_push_of_some _ (Heap.get?_push_size _ rfl), rfl, rfl⟩ (by rw [Heap.size_push, hz]) fun b o x => Heap.get?_push_of_some _ (Heap.get?_push_of_some _ x)⟩
def IteT (K : PySem.W.Frag) (a : Addr) : It :=
  ⟨fun i H => ∃ (xs : List V) (x : V), SqT K H a xs ∧ xs[i]? = some x, fun i H v H' => ∃ T x, v = .ref T ∧ H T = none ∧ H' = upd H T (.tup [.int (i : Nat), x]) ∧ ∀ xs, SqT K H a xs → xs[i]? = some x, fun i H => ∃ xs : List V, SqT K H a xs ∧ xs.length ≤ i⟩
theorem turn_enumT {P : Program} {w : World} {K : PySem.W.Frag} {elts : List Expr} {kk : Nat} {tpos : Pos} (a e it : Addr) :
    Turn P w K (.Tuple elts kk tpos) (IteT K a) [e, it] e (fun i h => (∃ old, IsEnum h e it ((i : Nat) : Int) old) ∧ h.IsTupleIter it a i ∧ e ≠ it ∧ a ≠ it) where
  mem := by simp
  obj := fun i h st b hb => by
    obtain ⟨⟨old, he⟩, ⟨o, ho, hc, hd⟩, _⟩ := st
    have e' : b = e ∨ b = it := by simpa using hb
    rcases e' with z | z
    · rw [z]; exact ⟨_, he, fun v q => nomatch q⟩
    · rw [z]; exact ⟨o, ho, fun v q => by rw [hd] at q; cases q⟩
  keep := fun i h h' st k => by
    obtain ⟨⟨old, he⟩, hi, hne⟩ := st
    exact ⟨⟨old, k e (by simp) _ he⟩, hi.at fun o q => k it (by simp) o q, hne⟩
  item := by
    intro X hP hw hK hc i pins s σ H E I hf st hg
    subst hP hw hK
    obtain ⟨⟨old, he⟩, hit, hne, hai⟩ := st
    obtain ⟨xs, x, hq, hx⟩ := hg
    obtain ⟨its, rv, p, hz⟩ := I.tuple hq
    obtain ⟨u, hu, ru⟩ := rv.get hx
    have hel : e < s.heap.objs.size := Heap.lt_size he
    have hil : it < s.heap.objs.size := by obtain ⟨_, q, _⟩ := hit; exact Heap.lt_size q
    have hea : e ≠ a := fun z => by
      obtain ⟨o, q1, q2, _⟩ := id p
      rw [← z, he] at q1
      cases q1
      exact absurd (Value.type.inj q2) (by decide)
    have hlt : i < its.toArray.size := by
      have := (List.getElem?_eq_some_iff.mp hu).1
      simpa using this
    refine wpAny_pyNext_enum_itemD (Draws.tuple (A := X.A.in1) (I.ok.hd hc) it a hai its.toArray) he ⟨hit, p⟩ hlt hne (by simp [hne, hea]) fun u2 h' tk hu2 ho hst' hT hsz hk => ?_
    have eu : u2 = u := by
      have q : its[i]? = some u2 := by simpa using hu2
      rw [hu] at q
      exact (Option.some.inj q).symm
    subst eu
    refine ⟨_, rfl, wpAny_letOwnedTupleGo_enum (s := { s with heap := h', toks := tk + 1 }) ho fun h'' he' sb => ?_⟩
    have hT2 : h''.get? s.heap.objs.size = some { cls := .type "tuple", data := .seq #[.int i tk, u2] } := (sb.2 _ (Nat.ne_of_gt hel)).trans hT
    have new : ObjOk X.prog X.w (upd H s.heap.objs.size (.tup [.int (i : Nat), x])) h'' s.heap.objs.size (.tup [.int (i : Nat), x]) :=
      ⟨by show 2 ≤ sizeLine; decide, [.int i tk, u2], .cons ⟨_, rfl⟩ (.cons ru .nil), ⟨_, hT2, rfl, _, rfl⟩⟩
    have I1 : Inv X pins σ (upd H s.heap.objs.size (.tup [.int (i : Nat), x])) { s with heap := h'', toks := tk + 1 } :=
      I.turnedNew (ch := [e, it]) (fun b ob hb q => (sb.2 b (fun z => hb (by simp [z]))).trans (hk b ob (fun z => hb (by simp [z])) (fun z => hb (by simp [z])) q)) hf (Nat.le_refl _) new
    refine ⟨.ref s.heap.objs.size, _, I1, rfl, ⟨_, x, rfl, I.hok.fresh (Nat.le_refl _), rfl, fun ys hy => by rw [I.tuple_inj hy hq]; exact hx⟩, ⟨⟨u2, ?_⟩, hst'.1.at fun o q => (sb.2 it (Ne.symm hne)).trans q, hne, hai⟩, fun b hb => ?_⟩
    · have e1 : ((i + 1 : Nat) : Int) = (i : Int) + 1 := by omega
      rw [e1]
      exact he'
    · have hb' : b < s.heap.objs.size := by
        have e' : b = e ∨ b = it := by simpa using hb
        rcases e' with z | z
        · rw [z]; exact hel
        · rw [z]; exact hil
      rw [upd_ne (Nat.ne_of_lt hb')]
      exact (hf b hb).1
  done := by
    intro X hP hw hK hc i pins s σ H E I hf st hg
    subst hP hw hK
    obtain ⟨⟨old, he⟩, hit, hne, hai⟩ := st
    obtain ⟨xs, hq, hx⟩ := hg
    obtain ⟨its, rv, p, hz⟩ := I.tuple hq
    obtain ⟨f0, f1, f2, f3, f4, f5⟩ := hf it (by simp)
    have hl := rv.length
    have hTy : s.TypeIs (.ref e) "enumerate" := ⟨_, he, rfl⟩
    unfold pyNext
    refine wpAny_bind (wpAny_attempt (wpAny_callSpecial?_slot (name := Str.ofString "__next__") hTy F.slot_enumerate_next
      (wpAny_call_entry F.slot_enumerate_next hTy F.entry_enumerate_next ?_ (F.args_enumerate_next_1 _))))
    show wpAny _ _ (field (.ref e) 2 >>= _) _ _ _
    refine wpAny_bind (wpAny_field he rfl (x := .ref it) rfl ?_)
    refine wpAny_bind (wpAny_nextOf_tuple_end (A := X.A.in1) (I.ok.hd hc) hit p (by simp; omega) fun h' x eb hx' => ?_)
    obtain ⟨o, ho, hcl⟩ := hx'
    refine wpAny_bind (wpAny_isInstance (T := "StopIteration") (b := true) ⟨o, ho, hcl⟩ isSubtype_stop ?_)
    exact wpAny_pure ⟨rfl, I.turned (t' := s.toks) (fun b o hb q => eb b o hb q) f0 f1 f3 f4 f5⟩
  self := fun A i s Q E st h => let ⟨⟨_, he⟩, _⟩ := st; wpAny_pyIter_enum he h
def iEnumT (K : PySem.W.Frag) (ta : TA) : TI := fun σ H R => ta σ H fun vs H1 => ∃ a xs, vs = [.ref a] ∧ SqT K H1 a xs ∧ R (IteT K a) H1
theorem pi_enumT {X : Cx} {e : Expr} {ta : TA} {p pos tpos : Pos} {elts : List Expr} {kk : Nat} (hg : Gl X "enumerate") (hm : X.mg "enumerate" = none) (ha : PA X [e] ta) (hs : starEach [e] X.env = [(false, eval e X.env)] := by rfl) :
    PI X (.Tuple elts kk tpos) (.Call (.Name "enumerate" p) [e] [] pos) (iEnumT X.K ta) := by
  refine ⟨fun pins s σ H R I h => ?_⟩
  refine Call_ (ld_blt I hg hm boot_enumerate (PyProof.Rows.callWith_type1 (thn (ha.run pos pins s σ H _ I h) fun us s1 ⟨vs, H1, I1, r1, q1⟩ => ?_) hs rfl))
  obtain ⟨a, xs, ex, hq, q⟩ := q1
  subst ex
  cases r1 with
  | cons r rr =>
    cases rr
    cases r
    obtain ⟨its, rv, p', hz⟩ := I1.tuple hq
    have hal : a < s1.heap.objs.size := let ⟨_, q, _⟩ := id p'; Heap.lt_size q
    refine call_enumT p' fun h' he hit hsz hk => wpAny_pyIter_enum he ?_
    have I2 : Inv X pins σ H1 { s1 with heap := h' } := I1.kept (t' := s1.toks) hk
    refine ⟨s1.heap.objs.size + 1, [s1.heap.objs.size + 1, s1.heap.objs.size], _, _, H1, rfl, I2, turn_enumT a (s1.heap.objs.size + 1) s1.heap.objs.size, ⟨⟨.none, he⟩, hit, Nat.succ_ne_self _, Nat.ne_of_lt hal⟩, fun b hb => ?_, q⟩
    have e' : b = s1.heap.objs.size + 1 ∨ b = s1.heap.objs.size := by simpa using hb
    have hle : s1.heap.objs.size ≤ b := by
      rcases e' with z | z
      · rw [z]; exact Nat.le_add_right _ _
      · rw [z]; exact Nat.le_refl _
    exact I1.fpOk hle (I1.hok.fresh hle)
end TA
set_option maxHeartbeats 4000000
namespace TA
open PySem PySem.Spec PyProof.Rows L2
end TA
set_option maxHeartbeats 4000000
namespace TA
open PySem PySem.Spec PyProof.Rows L2
open GxR (TabB TabG Tabbed)
end TA
set_option maxHeartbeats 4000000
namespace TA
open PySem PySem.Spec PyProof.Rows L2
open GxR (TabB TabG Tabbed)
def Kinds (K : PySem.W.Frag) (cs : List (Addr × Addr)) (a : Addr) (H : Hp) : Prop :=
  ∀ b u, H b = some u → (b = a ∧ K.lookup a = none ∧ ∃ o xs, u = .frz o (.lst xs)) ∨ (u = .tbl #[] ∧ ∃ p ∈ cs, b = p.2)
end TA
set_option maxHeartbeats 4000000
namespace TA
open PySem PySem.Spec PyProof.Rows L2
theorem count_eqU {x : V} : ∀ {xs : List V} {us : List Value}, Vals xs us → xs.all flatV = true → us.countP (eqU x) = xs.countP fun y => eqV y x
  | _, _, .nil, _ => rfl
  | y :: xs, u :: us, .cons r t, f => by
    obtain ⟨f1, f2⟩ := Bool.and_eq_true_iff.mp (show (flatV y && xs.all flatV) = true from f)
    rw [List.countP_cons, List.countP_cons, count_eqU t f2, eqU_of r f1]
section
variable {X : Cx}
def rCntV (K : PySem.W.Frag) : V → List V → Hp → VK → Prop := fun x xs H Q => ∃ (p : Addr) (ys : List V) (y : V), x = .ref p ∧ xs = [y] ∧ SqL K H p ys ∧ flatV y = true ∧ ys.all flatV = true ∧ Q (.int ((ys.countP fun z => eqV z y : Nat) : Int)) H
theorem mt_countV : MtR X "list.count" (rCntV X.K) := by
  intro pins s σ H x xs v us Q I rx rxs h
  obtain ⟨p, ys, y, rfl, rfl, hs, fy, fys, q⟩ := h
  cases rx
  obtain ⟨u, rfl, ru⟩ := rxs.one
  obtain ⟨its, rv, ⟨⟨cls, dd, data, sl⟩, n, ho, hc, hdn, hd⟩, hlen⟩ := I.list hs
  dsimp only at hc hd
  subst hc hd
  refine call_meets PySem.F.slot_list_count ⟨_, ho, rfl⟩ PySem.F.entry_list_count (PySem.F.args_list_count_2 _ _)
    (SeqAt.list_countAt p its.toArray n dd sl u (eqU y)) ⟨ho, fun z hz => mem_eqAt ru fy rv fys z (by simpa using hz), ?_⟩
  refine ⟨.int ((ys.countP fun z => eqV z y : Nat) : Int), H, I.tok _, ⟨s.toks, ?_⟩, q⟩
  show Value.int ((its.toArray.toList.countP (eqU y) : Nat) : Int) s.toks = _
  rw [List.toList_toArray, count_eqU rv fys]
end
end TA
set_option maxHeartbeats 4000000
namespace TA
open PySem PySem.Spec PyProof.Rows L2
abbrev TLf := Addr → L2.St → Hp → (Hp → Prop) → Prop
structure PLf (Y : Cx) (lf : Value → Env → Sem Unit) (tl : TLf) : Prop where
  run : ∀ (D : Addr) (pins : List (Addr × Obj)) (s : Shared) (σ : L2.St) (H : Hp) (Nx : Hp → Prop), Inv Y pins σ H s → tl D σ H Nx → wpAny (model Y.prog Y.w) Y.A (lf (.ref D) Y.env) (fun _ s' => ∃ H', Inv Y pins σ H' s' ∧ Nx H') Y.xe s
structure PMk (X : Cx) (mk : Sem Value) (u0 : Addr → HO) : Prop where
  run : ∀ (pins : List (Addr × Obj)) (s : Shared) (σ : L2.St) (H : Hp) (Q : Value → Shared → Prop), Inv X pins σ H s → (∀ D s', s.heap.objs.size ≤ D → H D = none → Inv X pins σ (upd H D (u0 D)) s' → (∀ b o, s.heap.get? b = some o → s'.heap.get? b = some o) → s.heap.objs.size ≤ s'.heap.objs.size → Q (.ref D) s') → wpAny (model X.prog X.w) X.A mk Q X.xe s
section
variable {X : Cx}
abbrev blkC (X : Cx) (s : Shared) (H : Hp) (scope : Scope) (C : Addr) (cl : List (Str × Addr)) (fp : List Addr) : Cx := X.blk s H scope (compEnvC scope cl C X.env) fp
end
end TA
set_option maxHeartbeats 4000000
namespace TA
open PySem PySem.Spec PyProof.Rows L2
section
variable {X Y : Cx}
theorem PLf.imp {lf : Value → Env → Sem Unit} {tl tl' : TLf} (h : PLf Y lf tl) (i : ∀ D σ H Nx, tl' D σ H Nx → tl D σ H Nx) : PLf Y lf tl' := ⟨fun D pins s σ H Nx I q => h.run D pins s σ H Nx I (i D σ H Nx q)⟩
variable {elt kx vx tg iter tg1 iter1 : Expr} {ifs ifs1 : List Expr} {scope : Scope} {own : List (Str × Nat)} {vs1 : List Nat} {pos : Pos} {wi wi1 : TI} {g g1 : TG} {tt tt1 : TT} {tl : TLf}
end
end TA
set_option maxHeartbeats 4000000
namespace TA
open PySem PySem.Spec PyProof.Rows L2
end TA
set_option maxHeartbeats 4000000
namespace TA
open PySem PySem.Spec PyProof.Rows L2
open GxR (TabB TabG Tabbed)
end TA
set_option maxHeartbeats 4000000
namespace TA
open PySem PySem.Spec PyProof.Rows L2
open GxR (TabB TabG Tabbed)
end TA
set_option maxHeartbeats 4000000
namespace TA
open PySem PySem.Spec PyProof.Rows L2 GenW
open GxR (TabB TabG Tabbed)
end TA
set_option maxHeartbeats 4000000
namespace TA
open PySem PySem.Spec PyProof.Rows L2
open GxR (TabB TabG Tabbed)
end TA
set_option maxHeartbeats 4000000
namespace TA
open PySem PySem.Spec PyProof.Rows L2
open GxR (TabB TabG Tabbed)
theorem lawGTK {P : Program} {w : World} {K : PySem.W.Frag} {mg mb : Str → Option Value} {k : Nat}
    {fa a : Addr} {cs : List (Addr × Addr)} {fd : FuncData} {x : Str} {sp : Sp} {z : Shared} {vs : List Value} {ns : List Int}
    (KX : K.In z.heap) (hns : z.heap.Ns mainGlobals mg) (hb : z.heap.Ns builtinsNs mb)
    (hbb : ∀ x : Str, x ≠ "__name__" → mb x = bootBuiltins x) (hlim : z.heap.NoLimit) (hg : z.gens = #[])
    (hC : ∀ p ∈ cs, PySem.W.CodeHd z.heap p.1 p.2 ∧ z.heap.get? p.2 = some (PySem.W.tabObj #[])) (nT : ∀ p ∈ cs, K.lookup p.2 = none)
    (hbm : ∃ (bm : Addr) (ob : Obj), mg "__builtins__" = some (.ref bm) ∧ bm ≠ builtinsNs ∧ z.heap.get? bm = some ob ∧ ob.cls = .type "module" ∧ ob.dict = some builtinsNs ∧ ob.data = .plain)
    (ha : z.heap.get? a = some { cls := .type "list", data := .seq vs.toArray }) (hi : IntsAre vs ns)
    (hl : ns.length ≤ sizeLine) (hr : Room k callerA)
    (F : ∀ b0 : Heap, K.In b0 → b0.Ns mainGlobals mg → (∀ p ∈ cs, TabB b0 mg p.1 p.2) → FnG P w K mg b0 CX0 k fa fd [x] sp)
    (hbind : ∀ (s : Shared) (u : Value), BindsTo s fd ⟨[u], []⟩ [(x, u)])
    (hsp : ∀ H : Hp, (∀ p ∈ cs, TabG H p.2) → Kinds K cs a H → SqL K H a (ns.map V.int) → sp [.ref a] H (fun v _ => v = .bl true) fun _ _ _ => False) :
    codeAny (model P w) callerA (.call (.ref fa) ⟨[.ref a], []⟩)
      (fun r s' => r = .ok (.ret (.bool true)) ∧ OldK z.heap s'.heap ∧ s'.os = z.os ∧ AllBare s'.gens) z := by
  have rv := vals_ints hi
  have lenV := hi.length
  have core : ∀ H : Hp, (∀ p ∈ cs, H p.2 = some (.tbl #[])) → SqL K H a (ns.map V.int) → HOk P w H z.heap → Kinds K cs a H → codeAny (model P w) callerA (.call (.ref fa) ⟨[.ref a], []⟩)
        (fun r s' => r = .ok (.ret (.bool true)) ∧ OldK z.heap s'.heap ∧ s'.os = z.os ∧ AllBare s'.gens) z := by
    intro H hH hS hok kinds
    have hT : ∀ p ∈ cs, TabG H p.2 := fun p hp => ⟨#[], hH p hp, True.intro⟩
    have notr : ∀ {b : Addr} {o : Obj}, z.heap.get? b = some o → (∀ us n, o.data ≠ .seq us n) → o.data ≠ .fields #[] → H b = none := fun {b o} e h1 h2 => by
      cases q : H b with
      | none => rfl
      | some u =>
        rcases kinds b u q with ⟨rfl, _⟩ | ⟨_, p, hp, rfl⟩
        · rw [ha] at e
          cases e
          exact absurd rfl (h1 _ _)
        · rw [(hC p hp).2] at e
          cases e
          exact absurd rfl h2
    have dictK : ∀ {b : Addr} {o : Obj} {es : Array DictEntry} {ep : Nat}, z.heap.get? b = some o → o.data = .dict es ep → H b = none := fun {b o es ep} e d =>
      notr e (fun us n m => by rw [d] at m; cases m) (fun m => by rw [d] at m; cases m)
    have nsK : ∀ {b : Addr} {m : Str → Option Value}, z.heap.Ns b m → (hidT z.heap H).Ns b m :=
      fun {b m} ⟨o, es, ep, e, d, r⟩ => ⟨o, es, ep, hidT_get e (dictK e d), d, r⟩
    have hKb : K.In (hidT z.heap H) := fun b o e => hidT_get (KX b o e) (by
      cases q : H b with
      | none => rfl
      | some u =>
        rcases kinds b u q with ⟨rfl, m, _⟩ | ⟨_, p, hp, rfl⟩
        · rw [m] at e; cases e
        · rw [nT p hp] at e; cases e)
    have hM : Mod K mg (hidT z.heap H) :=
      ⟨hKb, nsK hns, ⟨mb, nsK hb, hbb⟩, let ⟨mc, h1, h2⟩ := hlim; ⟨mc, nsK h1, h2⟩⟩
    have TB : ∀ p ∈ cs, TabB (hidT z.heap H) mg p.1 p.2 := fun p hp => by
      obtain ⟨C, hTp⟩ := hC p hp
      refine ⟨?_, ?_, fun m => ?_⟩
      · obtain ⟨o, us, f1, f2, f3, f4, f5, f6, f7, e1, e2, e3, r⟩ := C
        refine ⟨o, us, f1, f2, f3, f4, f5, f6, f7, hidT_get e1 (notr e1 (fun us n m => by rw [e3] at m; cases m) (fun m => ?_)), e2, e3, r⟩
        rw [e3] at m
        cases m
        simp at r
      · obtain ⟨bm, ob, b1, b2, b3, b4, b5, b6⟩ := hbm
        refine ⟨bm, ob, b1, b2, fun q => ?_, fun q => ?_, hidT_get b3 (notr b3 (fun us n m => by rw [b6] at m; cases m) (fun m => by rw [b6] at m; cases m)), b4, b5, b6⟩
        · obtain ⟨o, es, ep, e, hd, _⟩ := hns
          rw [q, e] at b3
          cases b3
          rw [hd] at b6
          cases b6
        · rw [q, hTp] at b3
          cases b3
          cases b6
      · obtain ⟨o, es, ep, e, hd, _⟩ := hns
        rw [m, hTp] at e
        cases e
        cases hd
    have e0 : Env0 P w K mg (hidT z.heap H) callerA [] z H :=
      ⟨rfl, hM, fun b o e => of_hidT e, Nat.le_of_eq (hidT_size _ _), trivial,
        fun b h => absurd (show b ∈ ([] : List Addr) from h) (List.not_mem_nil), hok, .of_eq hg⟩
    refine codeAny_mono ((F _ hKb (nsK hns) TB).run callerA [] z H ⟨[.ref a], []⟩ [.ref a] [.ref a] _ _ rfl hr e0
      (hbind z (.ref a)) (.cons rfl .nil) (hsp H hT kinds hS)) fun r s' h => ?_
    match r, h with
    | .error e, h => exact False.elim h
    | .ok .next, h => exact False.elim h
    | .ok .brk, h => exact False.elim h
    | .ok .cont, h => exact False.elim h
    | .ok (.ret u), ⟨v, H', os, bare, un, hok', r', q⟩ =>
      have qv : v = .bl true := q
      subst qv
      obtain rfl : u = Value.bool true := r'
      have grown : ∀ p ∈ cs, ∃ more : Array Value, s'.heap.get? p.2 = some { cls := .none, data := .fields more } := fun p hp => by
        obtain ⟨more, m⟩ := un.tbls p.2 #[] (hH p hp)
        exact ⟨_, hok' p.2 _ m⟩
      have keep : ∀ b o, z.heap.get? b = some o → (s'.heap.get? b = some o) ∨ ∃ p ∈ cs, b = p.2 := fun b o e => by
        cases q : H b with
        | none => exact .inl (un.keep b o e q (fun m => absurd (show b ∈ ([] : List Addr) from m) List.not_mem_nil) (by simp))
        | some u =>
          rcases kinds b u q with ⟨_, _, o1, xs, m⟩ | ⟨_, p, hp, m⟩
          · rw [m] at q
            have e1 := (hok b _ q).1
            rw [e] at e1
            cases e1
            exact .inl (hok' b _ (un.frzs b _ _ q)).1
          · exact .inr ⟨p, hp, m⟩
      refine ⟨rfl, ⟨fun b o e => ?_, fun b o e => ?_⟩, os, bare⟩
      · rcases keep b o e with m | ⟨p, hp, rfl⟩
        · exact .inl m
        · obtain ⟨more, hm⟩ := grown p hp
          obtain ⟨C, hTp⟩ := hC p hp
          rw [hTp] at e
          cases e
          exact .inr (.inl ⟨(C.tab hTp).isCodeTable, rfl, #[], more, rfl, by rw [Array.empty_append]; exact hm⟩)
      · rcases keep b o e with m | ⟨p, hp, rfl⟩
        · exact ⟨o, m⟩
        · obtain ⟨more, hm⟩ := grown p hp
          exact ⟨_, hm⟩
  have aT : ∀ p ∈ cs, p.2 ≠ a := fun p hp e => by
    have q := (hC p hp).2
    rw [e, ha] at q
    cases (congrArg Obj.data (Option.some.inj q) : Data.seq vs.toArray _ = Data.fields #[])
  have isC : ∀ b, Decidable (∃ p ∈ cs, b = p.2) := fun b => Classical.propDecidable _
  let tb : Hp := fun b => @ite _ (∃ p ∈ cs, b = p.2) (isC b) (some (.tbl #[])) none
  have tb1 : ∀ p ∈ cs, tb p.2 = some (.tbl #[]) := fun p hp => if_pos ⟨p, hp, rfl⟩
  have tb2 : ∀ b u, tb b = some u → u = .tbl #[] ∧ ∃ p ∈ cs, b = p.2 := fun b u m => by
    by_cases h : ∃ p ∈ cs, b = p.2
    · cases (if_pos h).symm.trans m
      exact ⟨rfl, h⟩
    · cases (if_neg h).symm.trans m
  have okT : ∀ b, (∃ p ∈ cs, b = p.2) → z.heap.get? b = some { cls := .none, data := .fields #[] } := fun b ⟨p, hp, e⟩ => by rw [e]; exact (hC p hp).2
  cases hk : K.lookup a with
  | some o =>
    have e := KX a o hk
    rw [ha] at e
    cases e
    refine core tb tb1 (.inr ⟨_, vs.toArray, _, hk, rfl, rfl, rfl, by rw [List.size_toArray, lenV]; exact hl, by simpa using rv⟩) (fun b u m => ?_) (fun b u m => .inr (tb2 b u m))
    obtain ⟨e, h⟩ := tb2 b u m
    rw [e]
    exact okT b h
  | none =>
    refine core (fun b => if b = a then some (.frz { cls := .type "list", data := .seq vs.toArray } (.lst (ns.map V.int))) else tb b)
      (fun p hp => (if_neg (aT p hp)).trans (tb1 p hp)) (.inl (.inr ⟨{ cls := .type "list", data := .seq vs.toArray }, if_pos rfl⟩)) (fun b u m => ?_) (fun b u m => ?_)
    · by_cases h : b = a
      · cases (if_pos h).symm.trans m
        subst h
        exact ⟨ha, by rw [List.length_map]; exact hl, vs, _, rv, ha⟩
      · obtain ⟨e, h'⟩ := tb2 b u ((if_neg h).symm.trans m)
        rw [e]
        exact okT b h'
    · by_cases h : b = a
      · cases (if_pos h).symm.trans m
        exact .inl ⟨h, hk, _, _, rfl⟩
      · exact .inr (tb2 b u ((if_neg h).symm.trans m))
theorem walkGTK {l : PySem.W.OpenLaw} {n k : Nat} {q : Program} {loose : List Str}
    {XP : (Str → Option Value) → Heap → Prop} {YP : World → Heap → Prop} {d : DefRec} {K : Params → PySem.W.Frag}
    {x : Str} (nms : List Str) (hn : l.most = some n) (hn2 : n ≤ sizeLine) (hdf : d.params.defaults = [])
    (hr : Room k callerA) (hrec : ∀ nm ∈ nms, ∃ dm, (recsOf q).find? (fun e => e.name == nm) = some dm) (hY : ∀ (w : World) (h : Heap), YP w h → (K w.params).In h)
    (F : ∀ (w : World) (mg : Str → Option Value) (fa : Addr) (h : Heap), (K w.params).In h → h.Ns mainGlobals mg →
      mg d.name = some (.ref fa) → ∃ (fd : FuncData) (cs : List (Addr × Addr)) (sp : Sp), (∀ p ∈ cs, ∃ nm ∈ nms, PySem.W.tabIn (K w.params) nm = some p) ∧ (∀ p ∈ cs, (K w.params).lookup p.2 = none) ∧
        (∀ (s : Shared) (u : Value), BindsTo s fd ⟨[u], []⟩ [(x, u)]) ∧
        (∀ (H : Hp) (a : Addr) (ns : List Int), ns.length ≤ n → (∀ p ∈ cs, TabG H p.2) → Kinds (K w.params) cs a H → SqL (K w.params) H a (ns.map V.int) → sp [.ref a] H (fun v _ => v = .bl true) fun _ _ _ => False) ∧
        ∀ b0 : Heap, (K w.params).In b0 → b0.Ns mainGlobals mg → (∀ p ∈ cs, TabB b0 mg p.1 p.2) → FnG l.prog w (K w.params) mg b0 CX0 k fa fd [x] sp) :
    PySem.W.WalkO q loose XP YP l.row.toRowW d [] (fun f vs => PySem.call f vs) := by
  refine Att.attach_call hn hdf fun w _ z mg mb fa o pm cd dc a vs ns G Y _ _ _ hmg ho hi hlen hg => ?_
  have KX := hY w _ Y
  obtain ⟨fd, cs, sp, ht, nT, hb, hsp, hF⟩ := F w mg fa _ KX G.T.g hmg
  refine lawGTK KX G.T.g G.T.b G.T.builtins G.T.nolimit hg (fun p hp => ?_) nT G.T.bmain ho hi (Nat.le_trans hlen hn2) hr hF hb (fun H hT kd hS => hsp H a ns hlen hT kd hS)
  obtain ⟨nm, hnm, e⟩ := ht p hp
  obtain ⟨dm, hdm⟩ := hrec nm hnm
  exact PySem.W.tab_of G.T KX hdm e
end TA
set_option maxHeartbeats 4000000
namespace VL
open PySem PySem.Spec PyProof.Rows L2
open GxR (TabB Tabbed)
theorem sl_ex : ∃ f : Bool → Bool, ∀ b, f b = b := ⟨fun b => b, fun _ => rfl⟩
noncomputable def sl : Bool → Bool := Classical.choose sl_ex
theorem sl_eq (b : Bool) : sl b = b := Classical.choose_spec sl_ex b
theorem sl_iff {p : Prop} {i : Decidable p} : sl (decide p) = true ↔ p := by rw [sl_eq, decide_eq_true_iff]
inductive D where
  | non | bl (b : Bool) | int (i : Int) | str (s : Str)
  | tup (ds : List D) | lst (ds : List D) | dct (ks : List Key) (ds : List D) | obj (c : Nat) (ns : List Str) (ds : List D)
  | scr (ns : List Int)
  | any
  | exn (c : Nat) (ns : List Str) (ds : List D)
structure Gb where
  K : PySem.W.Frag
  tabs : List Addr
  cls : Nat → Addr
  hot : Option (Addr × Nat × Option Addr)
def ScrAt (K : PySem.W.Frag) (H : Hp) (a : Addr) (xs : List V) : Prop :=
  (∃ o, H a = some (.frz o (.lst xs))) ∨
    ∃ (o : Obj) (its : Array Value) (n : Nat), K.lookup a = some o ∧ o.cls = .type "list" ∧ o.dict = none ∧ o.data = .seq its n ∧ its.size ≤ sizeLine ∧ Vals xs its.toList
theorem ScrAt.sql {K : PySem.W.Frag} {H : Hp} {a : Addr} {xs : List V} (h : ScrAt K H a xs) : SqL K H a xs := by
  rcases h with ⟨o, h⟩ | h
  · exact .inl (.inr ⟨o, h⟩)
  · exact .inr h
mutual
def Rds (G : Gb) (H : Hp) : D → V → List Addr → Prop
  | .non, v, F => v = .non ∧ F = []
  | .bl b, v, F => v = .bl b ∧ F = []
  | .int i, v, F => v = .int i ∧ F = []
  | .str s, v, F => v = .str s ∧ F = []
  | .tup ds, v, F => ∃ a xs, v = .ref a ∧ SqT G.K H a xs ∧ RdsL G H ds xs F
  | .lst ds, v, F => ∃ a xs A, v = .ref a ∧ H a = some (.lst xs) ∧ RdsL G H ds xs A ∧ F = a :: A
  | .dct ks ds, v, F => ∃ a us A, v = .ref a ∧ H a = some (.dK us) ∧ (us.map (·.1) = ks ∧ ks.Nodup) ∧ RdsL G H ds (us.map (·.2)) A ∧ F = a :: A
  | .obj c ns ds, v, F => ∃ a dx us A, v = .ref a ∧ H a = some (.ins (G.cls c) dx us) ∧ us.map (·.1) = ns ∧ RdsL G H ds (us.map (·.2)) A ∧ F = a :: A
  | .scr ns, v, F => ∃ a, v = .ref a ∧ ScrAt G.K H a (ns.map V.int) ∧ F = []
  | .any, _, F => F = []
  | .exn c ns ds, v, F => ∃ a dx us, G.hot = some (a, c, dx) ∧ v = .ref a ∧ (match dx with
      | none => us = []
      | some x => H x = some (.xd us)) ∧ us.map (·.1) = ns ∧ RdsL G H ds (us.map (·.2)) F
def RdsL (G : Gb) (H : Hp) : List D → List V → List Addr → Prop
  | [], xs, F => xs = [] ∧ F = []
  | d :: ds, xs, F => ∃ x r A B, xs = x :: r ∧ F = A ++ B ∧ Rds G H d x A ∧ RdsL G H ds r B
end
def MutO : HO → Bool
  | .lst _ => true
  | .dK _ => true
  | .ins _ _ _ => true
  | .ext _ => true
  | _ => false
class LamT where
  is : Addr → Bool
def TabR (H : Hp) (P : Addr) : Prop := ∃ ps : Array Value, H P = some (.tbl ps) ∧ TriplesOk ps.toList ∧ ∀ (pos : Pos) (cv : Value), codeAmong pos ps.toList = some cv →
  ∃ (c : Addr) (oc : Obj) (vs : Array Value) (nm : Str) (t : Tok), cv = .ref c ∧ H c = some (.frz oc (.own c)) ∧ oc.data = .fields vs ∧ vs[1]? = some (.str nm t)
variable [LamT]
def TabG (H : Hp) (P : Addr) : Prop := GxR.TabG H P ∧ (LamT.is P = true → TabR H P)
def Chg (M : Addr → Prop) (H H' : Hp) : Prop := ∀ q o, H q = some o →
  H' q = some o ∨ ((∃ ps, o = .tbl ps) ∧ TabG H' q) ∨ (M q ∧ MutO o = true ∧ ∃ o', H' q = some o' ∧ MutO o' = true)
def No : Addr → Prop := fun _ => False
theorem Chg.refl (M : Addr → Prop) (H : Hp) : Chg M H H := fun _ _ e => .inl e
theorem Chg.there {M : Addr → Prop} {H H' : Hp} (c : Chg M H H') {q : Addr} {o : HO} (e : H q = some o) : ∃ o', H' q = some o' := by
  rcases c q o e with h | ⟨_, ⟨ps, h, _⟩, _⟩ | ⟨_, _, o', h, _⟩
  · exact ⟨_, h⟩
  · exact ⟨_, h⟩
  · exact ⟨_, h⟩
theorem Chg.back {M : Addr → Prop} {H H' : Hp} (c : Chg M H H') {q : Addr} (e : H' q = none) : H q = none := by
  cases h : H q with
  | none => rfl
  | some o =>
    obtain ⟨o', h'⟩ := c.there h
    rw [e] at h'
    cases h'
theorem Chg.frz {M : Addr → Prop} {H H' : Hp} (c : Chg M H H') {q : Addr} {ob : Obj} {u : HO} (e : H q = some (.frz ob u)) : H' q = some (.frz ob u) := by
  rcases c q _ e with h | ⟨⟨ps, z⟩, _⟩ | ⟨_, z, _⟩
  · exact h
  · cases z
  · cases z
theorem Chg.tab {M : Addr → Prop} {H H' : Hp} (c : Chg M H H') {q : Addr} (t : TabG H q) : TabG H' q := by
  obtain ⟨⟨ps, e, r⟩, l⟩ := t
  rcases c q _ e with h | ⟨_, h⟩ | ⟨_, h, _⟩
  · refine ⟨⟨ps, h, r⟩, fun z => ?_⟩
    obtain ⟨ps', e', r', f⟩ := l z
    rw [e] at e'
    cases e'
    refine ⟨ps, h, r, fun pos cv hc => ?_⟩
    obtain ⟨x, oc, vs, nm, t, h1, h2, h3⟩ := f pos cv hc
    exact ⟨x, oc, vs, nm, t, h1, c.frz h2, h3⟩
  · exact h
  · cases h
theorem Chg.trans {M M' : Addr → Prop} {H H1 H2 : Hp} (a : Chg M H H1) (b : Chg M' H1 H2) : Chg (fun q => M q ∨ M' q) H H2 := fun q o e => by
  rcases a q o e with h | ⟨⟨ps, rfl⟩, h⟩ | ⟨h1, h2, o', h3, h4⟩
  · rcases b q o h with h | h | ⟨h5, h6⟩
    · exact .inl h
    · exact .inr (.inl h)
    · exact .inr (.inr ⟨.inr h5, h6⟩)
  · exact .inr (.inl ⟨⟨ps, rfl⟩, b.tab h⟩)
  · rcases b q o' h3 with h | ⟨⟨ps, e⟩, _⟩ | ⟨_, _, o2, h5, h6⟩
    · exact .inr (.inr ⟨.inl h1, h2, o', h, h4⟩)
    · rw [e] at h4
      cases h4
    · exact .inr (.inr ⟨.inl h1, h2, o2, h5, h6⟩)
theorem Chg.mono {M M' : Addr → Prop} {H H' : Hp} (a : Chg M H H') (h : ∀ q o, H q = some o → M q → M' q) : Chg M' H H' := fun q o e => by
  rcases a q o e with h' | h' | ⟨h1, h2⟩
  · exact .inl h'
  · exact .inr (.inl h')
  · exact .inr (.inr ⟨h q o e h1, h2⟩)
theorem Chg.new {M : Addr → Prop} {H : Hp} {p : Addr} {u : HO} (n : H p = none) : Chg M H (upd H p u) := fun q o e => .inl (by rw [upd_ne (ne_of_none e n)]; exact e)
theorem Chg.put {H : Hp} {p : Addr} {o u : HO} (e : H p = some o) (m : MutO o = true) (m' : MutO u = true) : Chg (fun q => q = p) H (upd H p u) := fun q o' e' => by
  by_cases h : q = p
  · subst h
    rw [e] at e'
    cases e'
    exact .inr (.inr ⟨rfl, m, u, upd_same, m'⟩)
  · exact .inl (by rw [upd_ne h]; exact e')
theorem Chg.grown {P : Addr} {H H' : Hp} {M : Addr → Prop} (t : GxR.TabG H P) (t' : TabG H' P) (h : ∀ b o, b ≠ P → H b = some o → H' b = some o) : Chg M H H' := fun q o e => by
  by_cases hq : q = P
  · subst hq
    obtain ⟨ps, e', _⟩ := t
    rw [e] at e'
    cases e'
    exact .inr (.inl ⟨⟨ps, rfl⟩, t'⟩)
  · exact .inl (h q o hq e)
theorem Chg.tabbed {P : Addr} {H H' : Hp} {M : Addr → Prop} (t : TabG H P) (h : Tabbed P H H') (hL : LamT.is P = false) : Chg M H H' :=
  Chg.grown t.1 ⟨h.1, fun z => by rw [hL] at z; cases z⟩ fun b o hb e => by rw [h.2 b hb]; exact e
section
variable {G : Gb} {H H' : Hp} {M : Addr → Prop}
theorem SqT.chg {K : PySem.W.Frag} (c : Chg M H H') {a : Addr} {xs : List V} (h : SqT K H a xs) : SqT K H' a xs := by
  rcases h with (h | ⟨o, h⟩) | h
  · rcases c a _ h with h' | ⟨⟨ps, z⟩, _⟩ | ⟨_, z, _⟩
    · exact .inl (.inl h')
    · cases z
    · cases z
  · rcases c a _ h with h' | ⟨⟨ps, z⟩, _⟩ | ⟨_, z, _⟩
    · exact .inl (.inr ⟨o, h'⟩)
    · cases z
    · cases z
  · exact .inr h
theorem ScrAt.chg {K : PySem.W.Frag} (c : Chg M H H') {a : Addr} {xs : List V} (h : ScrAt K H a xs) : ScrAt K H' a xs := by
  rcases h with ⟨o, h⟩ | h
  · rcases c a _ h with h' | ⟨⟨ps, z⟩, _⟩ | ⟨_, z, _⟩
    · exact .inl ⟨o, h'⟩
    · cases z
    · cases z
  · exact .inr h
theorem Chg.keep (c : Chg M H H') {q : Addr} {o : HO} (e : H q = some o) (m : MutO o = true) (n : ¬ M q) : H' q = some o := by
  rcases c q o e with h | ⟨⟨ps, z⟩, _⟩ | ⟨z, _⟩
  · exact h
  · rw [z] at m
    cases m
  · exact absurd z n
mutual
theorem Rds.chg (c : Chg M H H') : ∀ (d : D) (v : V) (F : List Addr), (∀ a ∈ F, ¬ M a) → Rds G H d v F → Rds G H' d v F
  | .non, _, _, _, h => by unfold Rds at h ⊢; exact h
  | .bl _, _, _, _, h => by unfold Rds at h ⊢; exact h
  | .int _, _, _, _, h => by unfold Rds at h ⊢; exact h
  | .str _, _, _, _, h => by unfold Rds at h ⊢; exact h
  | .tup ds, v, F, n, h => by
    unfold Rds at h ⊢
    obtain ⟨a, xs, h1, h2, h3⟩ := h
    exact ⟨a, xs, h1, SqT.chg c h2, RdsL.chg c ds xs F n h3⟩
  | .lst ds, v, F, n, h => by
    unfold Rds at h ⊢
    obtain ⟨a, xs, A, h1, h2, h3, rfl⟩ := h
    exact ⟨a, xs, A, h1, c.keep h2 rfl (n a List.mem_cons_self), RdsL.chg c ds xs A (fun b hb => n b (List.mem_cons_of_mem _ hb)) h3, rfl⟩
  | .dct ks ds, v, F, n, h => by
    unfold Rds at h ⊢
    obtain ⟨a, us, A, h1, h2, h3, h4, rfl⟩ := h
    exact ⟨a, us, A, h1, c.keep h2 rfl (n a List.mem_cons_self), h3, RdsL.chg c ds _ A (fun b hb => n b (List.mem_cons_of_mem _ hb)) h4, rfl⟩
  | .obj k ns ds, v, F, n, h => by
    unfold Rds at h ⊢
    obtain ⟨a, dx, us, A, h1, h2, h3, h4, rfl⟩ := h
    exact ⟨a, dx, us, A, h1, c.keep h2 rfl (n a List.mem_cons_self), h3, RdsL.chg c ds _ A (fun b hb => n b (List.mem_cons_of_mem _ hb)) h4, rfl⟩
  | .scr ns, v, F, n, h => by
    unfold Rds at h ⊢
    obtain ⟨a, h1, h2, h3⟩ := h
    exact ⟨a, h1, ScrAt.chg c h2, h3⟩
  | .any, _, _, _, h => by unfold Rds at h ⊢; exact h
  | .exn k ns ds, v, F, n, h => by
    unfold Rds at h ⊢
    obtain ⟨a, dx, us, h0, h1, h2, h3, h4⟩ := h
    refine ⟨a, dx, us, h0, h1, ?_, h3, RdsL.chg c ds _ F n h4⟩
    cases dx with
    | none => exact h2
    | some x =>
      rcases c x _ h2 with h' | ⟨⟨ps, z⟩, _⟩ | ⟨_, z, _⟩
      · exact h'
      · cases z
      · cases z
theorem RdsL.chg (c : Chg M H H') : ∀ (ds : List D) (vs : List V) (F : List Addr), (∀ a ∈ F, ¬ M a) → RdsL G H ds vs F → RdsL G H' ds vs F
  | [], _, _, _, h => by unfold RdsL at h ⊢; exact h
  | d :: ds, vs, F, n, h => by
    unfold RdsL at h ⊢
    obtain ⟨x, r, A, B, h1, rfl, h3, h4⟩ := h
    exact ⟨x, r, A, B, h1, rfl, Rds.chg c d x A (fun a ha => n a (List.mem_append_left _ ha)) h3, RdsL.chg c ds r B (fun a ha => n a (List.mem_append_right _ ha)) h4⟩
end
mutual
theorem Rds.trk : ∀ (d : D) (v : V) (F : List Addr), Rds G H d v F → ∀ a ∈ F, ∃ o, H a = some o ∧ MutO o = true
  | .non, _, _, h, a, ha => by unfold Rds at h; rw [h.2] at ha; cases ha
  | .bl _, _, _, h, a, ha => by unfold Rds at h; rw [h.2] at ha; cases ha
  | .int _, _, _, h, a, ha => by unfold Rds at h; rw [h.2] at ha; cases ha
  | .str _, _, _, h, a, ha => by unfold Rds at h; rw [h.2] at ha; cases ha
  | .tup ds, v, F, h, a, ha => by
    unfold Rds at h
    obtain ⟨_, xs, h1, h2, h3⟩ := h
    exact RdsL.trk ds xs F h3 a ha
  | .lst ds, v, F, h, a, ha => by
    unfold Rds at h
    obtain ⟨b, xs, A, h1, h2, h3, rfl⟩ := h
    rcases List.mem_cons.mp ha with rfl | ha
    · exact ⟨_, h2, rfl⟩
    · exact RdsL.trk ds xs A h3 a ha
  | .dct ks ds, v, F, h, a, ha => by
    unfold Rds at h
    obtain ⟨b, us, A, h1, h2, h3, h4, rfl⟩ := h
    rcases List.mem_cons.mp ha with rfl | ha
    · exact ⟨_, h2, rfl⟩
    · exact RdsL.trk ds _ A h4 a ha
  | .obj k ns ds, v, F, h, a, ha => by
    unfold Rds at h
    obtain ⟨b, dx, us, A, h1, h2, h3, h4, rfl⟩ := h
    rcases List.mem_cons.mp ha with rfl | ha
    · exact ⟨_, h2, rfl⟩
    · exact RdsL.trk ds _ A h4 a ha
  | .scr ns, v, F, h, a, ha => by
    unfold Rds at h
    obtain ⟨_, h1, h2, h3⟩ := h
    rw [h3] at ha
    cases ha
  | .exn _ _ ds, v, F, h, a, ha => by
    unfold Rds at h
    obtain ⟨_, _, us, _, _, _, _, h4⟩ := h
    exact RdsL.trk ds _ F h4 a ha
theorem RdsL.trk : ∀ (ds : List D) (vs : List V) (F : List Addr), RdsL G H ds vs F → ∀ a ∈ F, ∃ o, H a = some o ∧ MutO o = true
  | [], _, _, h, a, ha => by unfold RdsL at h; rw [h.2] at ha; cases ha
  | d :: ds, vs, F, h, a, ha => by
    unfold RdsL at h
    obtain ⟨x, r, A, B, h1, rfl, h3, h4⟩ := h
    rcases List.mem_append.mp ha with ha | ha
    · exact Rds.trk d x A h3 a ha
    · exact RdsL.trk ds r B h4 a ha
end
mutual
def D.atom : D → Bool
  | .tup ds => D.atomL ds
  | .lst _ => false
  | .dct _ _ => false
  | .obj _ _ _ => false
  | .exn _ _ ds => D.atomL ds
  | _ => true
def D.atomL : List D → Bool
  | [] => true
  | d :: ds => d.atom && D.atomL ds
end
mutual
theorem Rds.atom : ∀ (d : D) (v : V) (F : List Addr), d.atom = true → Rds G H d v F → F = []
  | .non, _, _, _, h => by unfold Rds at h; exact h.2
  | .bl _, _, _, _, h => by unfold Rds at h; exact h.2
  | .int _, _, _, _, h => by unfold Rds at h; exact h.2
  | .str _, _, _, _, h => by unfold Rds at h; exact h.2
  | .tup ds, v, F, a, h => by
    unfold Rds at h
    obtain ⟨_, xs, h1, h2, h3⟩ := h
    exact RdsL.atom ds xs F (by unfold D.atom at a; exact a) h3
  | .lst _, _, _, a, _ => by unfold D.atom at a; cases a
  | .dct _ _, _, _, a, _ => by unfold D.atom at a; cases a
  | .obj _ _ _, _, _, a, _ => by unfold D.atom at a; cases a
  | .scr _, _, _, _, h => by unfold Rds at h; obtain ⟨_, _, _, h⟩ := h; exact h
  | .any, _, _, _, h => by unfold Rds at h; exact h
  | .exn _ _ ds, v, F, a, h => by
    unfold Rds at h
    obtain ⟨_, _, us, _, _, _, _, h4⟩ := h
    exact RdsL.atom ds _ F (by unfold D.atom at a; exact a) h4
theorem RdsL.atom : ∀ (ds : List D) (vs : List V) (F : List Addr), D.atomL ds = true → RdsL G H ds vs F → F = []
  | [], _, _, _, h => by unfold RdsL at h; exact h.2
  | d :: ds, vs, F, a, h => by
    unfold RdsL at h
    unfold D.atomL at a
    rw [Bool.and_eq_true] at a
    obtain ⟨x, r, A, B, h1, rfl, h3, h4⟩ := h
    rw [Rds.atom d x A a.1 h3, RdsL.atom ds r B a.2 h4]
    rfl
end
end
inductive Mode where
  | arg | shr | own | io
  deriving DecidableEq
def Mode.w : Mode → Bool
  | .own => true
  | .io => true
  | _ => false
def Mode.new : Mode → Bool
  | .own => true
  | .shr => true
  | _ => false
abbrev Env := List (Option (Mode × D))
structure Ctx where
  H0 : Hp
  Z : Nat → Addr → Prop
  T : Addr → Prop
  HT : Hp
  iov : Nat → V
structure Rel (G : Gb) (C : Ctx) (H : Hp) (σ : L2.St) (E : Env) (Fs : Nat → List Addr) : Prop where
  len : E.length = σ.length
  rd : ∀ i m d, E[i]? = some (some (m, d)) → ∃ v, σ[i]? = some (some v) ∧ Rds G H d v (Fs i) ∧ (m = .io → v = C.iov i)
  nd : ∀ i m d, E[i]? = some (some (m, d)) → m.w = true → (Fs i).Nodup ∧ (∀ a ∈ Fs i, ¬ C.T a) ∧ ∀ j m' d', j ≠ i → E[j]? = some (some (m', d')) → ∀ a ∈ Fs i, a ∉ Fs j
  nw : ∀ i m d, E[i]? = some (some (m, d)) → (m.new = true → ∀ a ∈ Fs i, C.H0 a = none) ∧ (m = .io → ∀ a ∈ Fs i, C.Z i a ∨ C.H0 a = none)
  fr : Chg (fun q => ∃ i, C.Z i q) C.H0 H
  pr : Chg (fun q => ¬ C.T q) C.HT H
  pt : ∀ q, C.T q → ∃ o, C.HT q = some o ∧ MutO o = true
  tb : ∀ T ∈ G.tabs, TabG H T
inductive Kind where
  | own | sub (i : Nat) | top (S : List Nat) | vw (S : List Nat) | ref (i : Nat)
  deriving DecidableEq
def Kind.S : Kind → List Nat
  | .own => []
  | .sub i => [i]
  | .top S => S
  | .vw S => S
  | .ref i => [i]
def Asg (E : Env) (i : Nat) : Prop := ∃ m d, E[i]? = some (some (m, d))
def Loose (H : Hp) (E : Env) (Fs : Nat → List Addr) (a : Addr) : Prop := H a = none ∧ ∀ i, Asg E i → a ∉ Fs i
def Vw (H : Hp) (E : Env) (Fs : Nat → List Addr) (S : List Nat) (F : List Addr) : Prop := ∀ a ∈ F, (∃ i ∈ S, Asg E i ∧ a ∈ Fs i) ∨ Loose H E Fs a
def D.node : D → Bool
  | .lst _ => true
  | .dct _ _ => true
  | .obj _ _ _ => true
  | _ => false
def KOk (σ : L2.St) (H : Hp) (E : Env) (Fs : Nat → List Addr) (k : Kind) (d : D) (v : V) (F : List Addr) : Prop :=
  match k with
  | .own => F.Nodup ∧ Vw H E Fs [] F
  | .sub i => Asg E i ∧ F.Sublist (Fs i)
  | .top S => Vw H E Fs S F ∧ ∀ a r, d.node = true → F = a :: r → Loose H E Fs a
  | .vw S => Vw H E Fs S F
  | .ref i => ∃ m, E[i]? = some (some (m, d)) ∧ σ[i]? = some (some v) ∧ F = Fs i
theorem KOk.vw {σ : L2.St} {v : V} {H : Hp} {E : Env} {Fs : Nat → List Addr} {k : Kind} {d : D} {F : List Addr} (h : KOk σ H E Fs k d v F) : Vw H E Fs k.S F := by
  cases k with
  | own => exact h.2
  | sub i => exact fun a ha => .inl ⟨i, List.mem_singleton.mpr rfl, h.1, h.2.subset ha⟩
  | top S => exact h.1
  | vw S => exact h
  | ref i =>
    obtain ⟨m, e, _, rfl⟩ := h
    exact fun a ha => .inl ⟨i, List.mem_singleton.mpr rfl, ⟨m, d, e⟩, ha⟩
structure Stp (M : List Nat) (H H' : Hp) (E E' : Env) (Fs Fs' : Nat → List Addr) : Prop where
  chg : Chg (fun q => ∃ i ∈ M, ∃ m d, E[i]? = some (some (m, d)) ∧ m.w = true ∧ q ∈ Fs i) H H'
  fs : ∀ i, i ∉ M → Fs' i = Fs i
  gr : ∀ i : Nat, ∀ a ∈ Fs' i, a ∈ Fs i ∨ H a = none
  env : ∀ i : Nat, i ∉ M → E'[i]? = E[i]?
  md : ∀ i : Nat, (∀ m d, E[i]? = some (some (m, d)) → ∃ d', E'[i]? = some (some (m, d'))) ∧ (∀ m d, E'[i]? = some (some (m, d)) → ∃ d', E[i]? = some (some (m, d')))
theorem Stp.refl {M : List Nat} {H : Hp} {E : Env} {Fs : Nat → List Addr} : Stp M H H E E Fs Fs :=
  ⟨Chg.refl _ _, fun _ _ => rfl, fun _ _ h => .inl h, fun _ _ => rfl, fun _ => ⟨fun _ d e => ⟨d, e⟩, fun _ d e => ⟨d, e⟩⟩⟩
theorem Stp.of {M : List Nat} {H H' : Hp} {E : Env} {Fs : Nat → List Addr} (c : Chg No H H') : Stp M H H' E E Fs Fs :=
  ⟨c.mono fun _ _ _ z => z.elim, fun _ _ => rfl, fun _ _ h => .inl h, fun _ _ => rfl, fun _ => ⟨fun _ d e => ⟨d, e⟩, fun _ d e => ⟨d, e⟩⟩⟩
theorem Stp.asg {M : List Nat} {H H' : Hp} {E E' : Env} {Fs Fs' : Nat → List Addr} (s : Stp M H H' E E' Fs Fs') {i : Nat} : Asg E' i ↔ Asg E i :=
  ⟨fun ⟨m, d, e⟩ => let ⟨d', e'⟩ := (s.md i).2 m d e; ⟨m, d', e'⟩, fun ⟨m, d, e⟩ => let ⟨d', e'⟩ := (s.md i).1 m d e; ⟨m, d', e'⟩⟩
theorem Stp.trans {M M' : List Nat} {H H1 H2 : Hp} {E E1 E2 : Env} {Fs Fs1 Fs2 : Nat → List Addr} (a : Stp M H H1 E E1 Fs Fs1) (b : Stp M' H1 H2 E1 E2 Fs1 Fs2) : Stp (M ++ M') H H2 E E2 Fs Fs2 where
  chg := (a.chg.trans b.chg).mono fun q o e h => by
    rcases h with ⟨i, hi, m, d, h⟩ | ⟨i, hi, m, d, h1, h2, h3⟩
    · exact ⟨i, List.mem_append_left _ hi, m, d, h⟩
    · obtain ⟨d', e'⟩ := (a.md i).2 m d h1
      refine ⟨i, List.mem_append_right _ hi, m, d', e', h2, ?_⟩
      rcases a.gr i q h3 with z | z
      · exact z
      · rw [e] at z
        cases z
  fs := fun i hi => (b.fs i fun h => hi (List.mem_append_right _ h)).trans (a.fs i fun h => hi (List.mem_append_left _ h))
  gr := fun i q h => by
    rcases b.gr i q h with h | h
    · exact a.gr i q h
    · exact .inr (a.chg.back h)
  env := fun i hi => (b.env i fun h => hi (List.mem_append_right _ h)).trans (a.env i fun h => hi (List.mem_append_left _ h))
  md := fun i => ⟨fun m d e => let ⟨d', e'⟩ := (a.md i).1 m d e; (b.md i).1 m d' e', fun m d e => let ⟨d', e'⟩ := (b.md i).2 m d e; (a.md i).2 m d' e'⟩
theorem Stp.mono {M M' : List Nat} {H H' : Hp} {E E' : Env} {Fs Fs' : Nat → List Addr} (a : Stp M H H' E E' Fs Fs') (h : ∀ i ∈ M, i ∈ M') : Stp M' H H' E E' Fs Fs' where
  chg := a.chg.mono fun q o e ⟨i, hi, r⟩ => ⟨i, h i hi, r⟩
  fs := fun i hi => a.fs i fun z => hi (h i z)
  gr := a.gr
  env := fun i hi => a.env i fun z => hi (h i z)
  md := a.md
theorem Vw.base {M : Addr → Prop} {H H1 : Hp} {E : Env} {Fs : Nat → List Addr} {S : List Nat} {F : List Addr} (c : Chg M H H1) (h : Vw H1 E Fs S F) : Vw H E Fs S F := fun a ha => by
  rcases h a ha with z | ⟨z1, z2⟩
  · exact .inl z
  · exact .inr ⟨c.back z1, z2⟩
theorem KOk.base {σ : L2.St} {v : V} {M : Addr → Prop} {H H1 : Hp} {E : Env} {Fs : Nat → List Addr} {k : Kind} {d : D} {F : List Addr} (c : Chg M H H1) (h : KOk σ H1 E Fs k d v F) : KOk σ H E Fs k d v F := by
  cases k with
  | own => exact ⟨h.1, Vw.base c h.2⟩
  | sub i => exact h
  | top S => exact ⟨Vw.base c h.1, fun a r n e => let z := h.2 a r n e; ⟨c.back z.1, z.2⟩⟩
  | vw S => exact Vw.base c h
  | ref i => exact h
def Kind.safe (k : Kind) (M : List Nat) : Bool := k.S.all fun i => !M.contains i
theorem Kind.safe_of {k : Kind} {M : List Nat} (h : k.safe M = true) : ∀ i ∈ k.S, i ∉ M := fun i hi hm => by
  have := List.all_eq_true.mp h i hi
  simp [hm] at this
section
variable {G : Gb} {C : Ctx} {H H1 H2 : Hp} {σ : L2.St} {E1 E2 : Env} {Fs1 Fs2 : Nat → List Addr} {k : Kind} {d : D} {v : V} {F : List Addr} {M : List Nat}
theorem Loose.step {a : Addr} {o : HO} (e : H1 a = some o) (s : Stp M H1 H2 E1 E2 Fs1 Fs2) (h : Loose H E1 Fs1 a) : Loose H E2 Fs2 a :=
  ⟨h.1, fun i hi m => by
    rcases s.gr i a m with z | z
    · exact h.2 i (s.asg.mp hi) z
    · rw [e] at z
      cases z⟩
theorem Vw.step {S : List Nat} (t : ∀ a ∈ F, ∃ o, H1 a = some o) (s : Stp M H1 H2 E1 E2 Fs1 Fs2) (hs : ∀ i ∈ S, i ∉ M) (h : Vw H E1 Fs1 S F) : Vw H E2 Fs2 S F := fun a ha => by
  rcases h a ha with ⟨i, hi, h1, h2⟩ | h1
  · exact .inl ⟨i, hi, s.asg.mpr h1, by rw [s.fs i (hs i hi)]; exact h2⟩
  · obtain ⟨o, e⟩ := t a ha
    exact .inr (h1.step e s)
theorem Vw.apart {S : List Nat} (R : Rel G C H1 σ E1 Fs1) (hs : ∀ i ∈ S, i ∉ M) (h : Vw H E1 Fs1 S F) : ∀ a ∈ F, ¬ ∃ i ∈ M, ∃ m d, E1[i]? = some (some (m, d)) ∧ m.w = true ∧ a ∈ Fs1 i := fun a ha ⟨j, hj, m, d, e, hw, hm⟩ => by
  rcases h a ha with ⟨i, hi, ⟨m', d', e'⟩, h2⟩ | h1
  · exact (R.nd j m d e hw).2.2 i m' d' (fun z => hs i hi (by rw [z]; exact hj)) e' a hm h2
  · exact h1.2 j ⟨m, d, e⟩ hm
theorem KOk.step (R : Rel G C H1 σ E1 Fs1) (r : Rds G H1 d v F) (s : Stp M H1 H2 E1 E2 Fs1 Fs2) (hs : k.safe M = true) (h : KOk σ H E1 Fs1 k d v F) : Rds G H2 d v F ∧ KOk σ H E2 Fs2 k d v F := by
  have t : ∀ a ∈ F, ∃ o, H1 a = some o := fun a ha => let ⟨o, e, _⟩ := Rds.trk d v F r a ha; ⟨o, e⟩
  have hs' := Kind.safe_of hs
  refine ⟨Rds.chg s.chg d v F (Vw.apart R hs' h.vw) r, ?_⟩
  cases k with
  | own => exact ⟨h.1, h.2.step t s (fun i hi => by cases hi)⟩
  | sub i => exact ⟨s.asg.mpr h.1, by rw [s.fs i (hs' i (List.mem_singleton.mpr rfl))]; exact h.2⟩
  | top S => exact ⟨h.1.step t s hs', fun a r n e => by
      obtain ⟨o, e'⟩ := t a (by rw [e]; exact List.mem_cons_self)
      exact (h.2 a r n e).step e' s⟩
  | vw S => exact Vw.step t s hs' h
  | ref i =>
    obtain ⟨m, e, e', rfl⟩ := h
    have n := hs' i (List.mem_singleton.mpr rfl)
    exact ⟨m, by rw [s.env i n]; exact e, e', (s.fs i n).symm⟩
end
abbrev EF := Env → Option (D × Env)
def tV (G : Gb) (M : List Nat) (k : Kind) (f : EF) : TE := fun σ H Q => ∃ C E Fs, Rel G C H σ E Fs ∧ ∃ d E', f E = some (d, E') ∧
  ∀ v H' Fs' F, Rel G C H' σ E' Fs' → Stp M H H' E E' Fs Fs' → Rds G H' d v F → KOk σ H E' Fs' k d v F → Q v H'
abbrev VE (G : Gb) (X : Cx) (e : Expr) (M : List Nat) (k : Kind) (f : EF) : Prop := PE X e (tV G M k f)
theorem PE.imp {X : Cx} {e : Expr} {t t' : TE} (h : PE X e t) (i : ∀ σ H Q, t' σ H Q → t σ H Q) : PE X e t' := ⟨fun pins s σ H Q I q => h.run pins s σ H Q I (i σ H Q q)⟩
theorem PT.imp {X : Cx} {e : Expr} {t t' : TT} (h : PT X e t) (i : ∀ σ H Q, t' σ H Q → t σ H Q) : PT X e t' := ⟨fun pins s σ H Q I q => h.run pins s σ H Q I (i σ H Q q)⟩
theorem PA.imp {X : Cx} {es : List Expr} {t t' : TA} (h : PA X es t) (i : ∀ σ H Q, t' σ H Q → t σ H Q) : PA X es t' := ⟨fun p pins s σ H Q I q => h.run p pins s σ H Q I (i σ H Q q)⟩
theorem PS.imp {X : Cx} {e : Stmt} {t t' : TS} (h : PS X e t) (i : ∀ D σ H, t' D σ H → t D σ H) : PS X e t' := ⟨fun pins s σ H D I q => h.run pins s σ H D I (i D σ H q)⟩
theorem PSs.imp {X : Cx} {e : List Stmt} {t t' : TS} (h : PSs X e t) (i : ∀ D σ H, t' D σ H → t D σ H) : PSs X e t' := ⟨fun pins s σ H D I q => h.run pins s σ H D I (i D σ H q)⟩
def ArgsOk (G : Gb) (σ : L2.St) (H H' : Hp) (E : Env) (Fs : Nat → List Addr) : List Kind → List D → List V → List (List Addr) → Prop
  | [], ds, vs, FF => ds = [] ∧ vs = [] ∧ FF = []
  | k :: ks, ds, vs, FF => ∃ d ds' v vs' F FF', ds = d :: ds' ∧ vs = v :: vs' ∧ FF = F :: FF' ∧ Rds G H' d v F ∧ KOk σ H E Fs k d v F ∧
      (∀ (j : Nat) (B : List Addr), FF'[j]? = some B → (k = Kind.own ∨ ks[j]? = some Kind.own) → ∀ a ∈ F, a ∉ B) ∧ ArgsOk G σ H H' E Fs ks ds' vs' FF'
abbrev LF := Env → Option (List D × Env)
def tVL (G : Gb) (M : List Nat) (ks : List Kind) (f : LF) : TA := fun σ H Q => ∃ C E Fs, Rel G C H σ E Fs ∧ ∃ ds E', f E = some (ds, E') ∧
  ∀ vs H' Fs' FF, Rel G C H' σ E' Fs' → Stp M H H' E E' Fs Fs' → ArgsOk G σ H H' E' Fs' ks ds vs FF → Q vs H'
abbrev VL (G : Gb) (X : Cx) (es : List Expr) (M : List Nat) (ks : List Kind) (f : LF) : Prop := PA X es (tVL G M ks f)
def lNil : LF := fun E => some ([], E)
def lCons (f : EF) (g : LF) : LF := fun E => match f E with
  | some (d, E1) => (match g E1 with
    | some (ds, E2) => some (d :: ds, E2)
    | none => none)
  | none => none
theorem ArgsOk.base {G : Gb} {σ : L2.St} {M : Addr → Prop} {H H1 H' : Hp} {E : Env} {Fs : Nat → List Addr} (c : Chg M H H1) : ∀ {ks : List Kind} {ds : List D} {vs : List V} {FF : List (List Addr)}, ArgsOk G σ H1 H' E Fs ks ds vs FF → ArgsOk G σ H H' E Fs ks ds vs FF
  | [], _, _, _, h => by unfold ArgsOk at h ⊢; exact h
  | k :: ks, _, _, _, h => by
    unfold ArgsOk at h ⊢
    obtain ⟨d, ds', v, vs', F, FF', h1, h2, h3, h4, h5, h6, h7⟩ := h
    exact ⟨d, ds', v, vs', F, FF', h1, h2, h3, h4, h5.base c, h6, h7.base c⟩
theorem ArgsOk.get {G : Gb} {σ : L2.St} {H H' : Hp} {E : Env} {Fs : Nat → List Addr} : ∀ {ks : List Kind} {ds : List D} {vs : List V} {FF : List (List Addr)} {j : Nat} {B : List Addr}, ArgsOk G σ H H' E Fs ks ds vs FF → FF[j]? = some B → ∃ k d v, ks[j]? = some k ∧ ds[j]? = some d ∧ vs[j]? = some v ∧ Rds G H' d v B ∧ KOk σ H E Fs k d v B
  | [], _, _, _, j, B, h, e => by
    obtain ⟨_, _, rfl⟩ := h
    simp at e
  | k :: ks, _, _, _, j, B, h, e => by
    obtain ⟨d, ds', v, vs', F, FF', rfl, rfl, rfl, h4, h5, h6, h7⟩ := h
    cases j with
    | zero =>
      simp at e
      subst e
      exact ⟨k, d, v, rfl, rfl, rfl, h4, h5⟩
    | succ j => simpa using h7.get (by simpa using e)
section
variable {G : Gb} {X : Cx} {e : Expr} {es : List Expr} {M M' : List Nat} {k : Kind} {ks : List Kind} {f : EF} {g : LF}
theorem vl_nil : VL G X [] [] [] lNil := PA.imp pa_nil fun σ H Q ⟨C, E, Fs, R, ds, E', e, q⟩ => by
  cases e
  exact q [] H Fs [] R Stp.refl ⟨rfl, rfl, rfl⟩
theorem seq_cons {σ : L2.St} {H : Hp} {Q : List V → Hp → Prop} (hs : k.safe M' = true) (h : tVL G (M ++ M') (k :: ks) (lCons f g) σ H Q) : tV G M k f σ H fun x H1 => tVL G M' ks g σ H1 fun xs H2 => Q (x :: xs) H2 := by
  obtain ⟨C, E, Fs, R, ds, E', e, q⟩ := h
  unfold lCons at e
  cases e1 : f E with
  | none => rw [e1] at e; cases e
  | some p =>
    obtain ⟨d, E1⟩ := p
    rw [e1] at e
    dsimp only at e
    cases e2 : g E1 with
    | none => rw [e2] at e; cases e
    | some p2 =>
      obtain ⟨ds', E'⟩ := p2
      rw [e2] at e
      cases e
      refine ⟨C, E, Fs, R, d, E1, e1, fun v H1 Fs1 F R1 s1 r1 k1 => ⟨C, E1, Fs1, R1, ds', E', e2, fun vs H2 Fs2 FF R2 s2 a2 => ?_⟩⟩
      obtain ⟨r2, k2⟩ := k1.step R1 r1 s2 hs
      refine q (v :: vs) H2 Fs2 (F :: FF) R2 (s1.trans s2) ⟨d, ds', v, vs, F, FF, rfl, rfl, rfl, r2, k2, fun j B hB hk a ha hb => ?_, a2.base s1.chg⟩
      obtain ⟨o, eo, _⟩ := Rds.trk d v F r1 a ha
      have kj' : ∃ kj dj vj, ks[j]? = some kj ∧ KOk σ H1 E' Fs2 kj dj vj B := let ⟨kj, dj, vj, h1, _, _, _, h5⟩ := a2.get hB; ⟨kj, dj, vj, h1, h5⟩
      obtain ⟨kj, dj, vj, ej, hj⟩ := kj'
      rcases hj.vw a hb with ⟨i, hi, h1, h2⟩ | h1
      · rcases hk with hk | hk
        · subst hk
          rcases k2.2 a ha with ⟨_, z, _⟩ | z
          · cases z
          · exact z.2 i h1 h2
        · rw [hk] at ej
          cases ej
          cases hi
      · rw [h1.1] at eo
        cases eo
theorem vl_cons (he : VE G X e M k f) (hr : VL G X es M' ks g) (sf : k.safe M' = true := by rfl) (hs : starEach (e :: es) X.env = (false, eval e X.env) :: starEach es X.env := by rfl) : VL G X (e :: es) (M ++ M') (k :: ks) (lCons f g) :=
  PA.imp (pa_cons he hr hs) fun σ H Q h => seq_cons sf h
end
end VL
set_option maxHeartbeats 4000000
namespace VL
noncomputable section
open PySem PySem.Spec PyProof.Rows L2
open GxR (TabB Tabbed)
variable [LamT]
section
variable {G : Gb} {C : Ctx} {H H' : Hp} {σ : L2.St} {E : Env} {Fs : Nat → List Addr}
theorem Rel.loose (R : Rel G C H σ E Fs) {a : Addr} (n : H a = none) : Loose H E Fs a := ⟨n, fun i ⟨m, d, e⟩ hm => by
  obtain ⟨v, _, r, _⟩ := R.rd i m d e
  obtain ⟨o, e', _⟩ := Rds.trk d v _ r a hm
  rw [n] at e'
  cases e'⟩
theorem Rel.chg (R : Rel G C H σ E Fs) (c : Chg No H H') : Rel G C H' σ E Fs where
  len := R.len
  rd := fun i m d e => let ⟨v, h1, h2, h3⟩ := R.rd i m d e; ⟨v, h1, Rds.chg c d v _ (fun _ _ z => z) h2, h3⟩
  nd := R.nd
  nw := R.nw
  fr := (R.fr.trans c).mono fun _ _ _ z => z.elim id fun z => z.elim
  pr := (R.pr.trans c).mono fun _ _ _ z => z.elim id fun z => z.elim
  pt := R.pt
  tb := fun T hT => c.tab (R.tb T hT)
theorem ArgsOk.rds : ∀ {ks : List Kind} {ds : List D} {vs : List V} {FF : List (List Addr)} {H1 : Hp}, ArgsOk G σ H1 H E Fs ks ds vs FF → RdsL G H ds vs FF.flatten
  | [], _, _, _, _, h => by
    obtain ⟨rfl, rfl, rfl⟩ := h
    unfold RdsL
    exact ⟨rfl, rfl⟩
  | k :: ks, _, _, _, _, h => by
    obtain ⟨d, ds', v, vs', F, FF', rfl, rfl, rfl, h4, h5, h6, h7⟩ := h
    unfold RdsL
    exact ⟨v, vs', F, FF'.flatten, rfl, by simp, h4, h7.rds⟩
theorem ArgsOk.vw : ∀ {ks : List Kind} {ds : List D} {vs : List V} {FF : List (List Addr)} {H1 : Hp}, ArgsOk G σ H1 H E Fs ks ds vs FF → Vw H1 E Fs (ks.map Kind.S).flatten FF.flatten
  | [], _, _, _, _, h => by
    obtain ⟨rfl, rfl, rfl⟩ := h
    intro a ha
    cases ha
  | k :: ks, _, _, _, _, h => by
    obtain ⟨d, ds', v, vs', F, FF', rfl, rfl, rfl, h4, h5, h6, h7⟩ := h
    intro a ha
    rw [List.flatten_cons, List.mem_append] at ha
    rcases ha with ha | ha
    · rcases h5.vw a ha with ⟨i, hi, z⟩ | z
      · exact .inl ⟨i, by rw [List.map_cons, List.flatten_cons]; exact List.mem_append_left _ hi, z⟩
      · exact .inr z
    · rcases h7.vw a ha with ⟨i, hi, z⟩ | z
      · exact .inl ⟨i, by rw [List.map_cons, List.flatten_cons]; exact List.mem_append_right _ hi, z⟩
      · exact .inr z
theorem ArgsOk.nodup : ∀ {ks : List Kind} {ds : List D} {vs : List V} {FF : List (List Addr)} {H1 : Hp}, (∀ k ∈ ks, k = Kind.own) → ArgsOk G σ H1 H E Fs ks ds vs FF → FF.flatten.Nodup
  | [], _, _, _, _, _, h => by
    obtain ⟨rfl, rfl, rfl⟩ := h
    exact List.nodup_nil
  | k :: ks, _, _, _, _, o, h => by
    obtain ⟨d, ds', v, vs', F, FF', rfl, rfl, rfl, h4, h5, h6, h7⟩ := h
    have hk := o k List.mem_cons_self
    subst hk
    rw [List.flatten_cons, List.nodup_append]
    refine ⟨h5.1, h7.nodup fun k hk => o k (List.mem_cons_of_mem _ hk), fun a ha b hb e => ?_⟩
    subst e
    obtain ⟨B, hB, hb⟩ := List.mem_flatten.mp hb
    obtain ⟨j, hj, e⟩ := List.mem_iff_getElem.mp hB
    exact h6 j B (by rw [← e]; exact List.getElem?_eq_getElem hj) (.inl rfl) a ha hb
end
def PrimF (G : Gb) (r : List V → Hp → VK → Prop) (p : List D → Option D) : Prop := ∀ (H : Hp) (vs : List V) (ds : List D) (F : List Addr) (Q : VK) (d : D), (∀ T ∈ G.tabs, TabG H T) → RdsL G H ds vs F → p ds = some d →
  (∀ v H' A, Rds G H' d v A → A.Nodup → (∀ a ∈ A, H a = none) → Chg No H H' → Q v H') → r vs H Q
def PrimV (G : Gb) (r : List V → Hp → VK → Prop) (p : List D → Option D) : Prop := ∀ (H : Hp) (vs : List V) (ds : List D) (F : List Addr) (Q : VK) (d : D), (∀ T ∈ G.tabs, TabG H T) → RdsL G H ds vs F → p ds = some d →
  (∀ v H' A, Rds G H' d v A → (F.Nodup → A.Nodup) → (∀ a ∈ A, a ∈ F ∨ H a = none) → (∀ a t, d.node = true → A = a :: t → H a = none) → Chg No H H' → Q v H') → r vs H Q
theorem PrimF.v {G : Gb} {r : List V → Hp → VK → Prop} {p : List D → Option D} (h : PrimF G r p) : PrimV G r p := fun H vs ds F Q d t rd e q =>
  h H vs ds F Q d t rd e fun v H' A r1 nd nw c => q v H' A r1 (fun _ => nd) (fun a ha => .inr (nw a ha)) (fun a t _ e => nw a (by rw [e]; exact List.mem_cons_self)) c
def PrimE (G : Gb) (r : List V → Hp → VK → Prop) (p : List D → Option D) : Prop := ∀ (H : Hp) (d1 : D) (v1 : V) (F1 : List Addr) (vs : List V) (ds : List D) (F : List Addr) (Q : VK) (d : D), (∀ T ∈ G.tabs, TabG H T) → Rds G H d1 v1 F1 → RdsL G H ds vs F → p (d1 :: ds) = some d →
  (∀ v H' A, Rds G H' d v A → A.Sublist F1 → Chg No H H' → Q v H') → r (v1 :: vs) H Q
def ePrim (p : List D → Option D) (l : LF) : EF := fun E => match l E with
  | some (ds, E') => (match p ds with
    | some d => some (d, E')
    | none => none)
  | none => none
def kTop (ks : List Kind) : Kind := if ks.all (fun k => decide (k = Kind.own)) then .own else .top (ks.map Kind.S).flatten
section
variable {G : Gb} {M : List Nat} {ks : List Kind} {l : LF} {p : List D → Option D} {r : List V → Hp → VK → Prop} {σ : L2.St} {H : Hp} {Q : VK}
theorem ePrim_some {E E' : Env} {d : D} (h : ePrim p l E = some (d, E')) : ∃ ds, l E = some (ds, E') ∧ p ds = some d := by
  unfold ePrim at h
  cases e : l E with
  | none => rw [e] at h; cases h
  | some x =>
    obtain ⟨ds, E1⟩ := x
    rw [e] at h
    dsimp only at h
    cases e2 : p ds with
    | none => rw [e2] at h; cases h
    | some d' =>
      rw [e2] at h
      cases h
      exact ⟨ds, rfl, e2⟩
section
variable {C : Ctx} {E E' : Env} {Fs Fs2 : Nat → List Addr} {H2 : Hp} {ds : List D} {vs : List V} {FF : List (List Addr)} {d : D}
theorem fin_own (P : PrimF G r p) (R2 : Rel G C H2 σ E' Fs2) (s2 : Stp M H H2 E E' Fs Fs2) (a2 : RdsL G H2 ds vs FF.flatten) (e2 : p ds = some d)
    (q : ∀ v H' Fs' F, Rel G C H' σ E' Fs' → Stp M H H' E E' Fs Fs' → Rds G H' d v F → KOk σ H E' Fs' .own d v F → Q v H') : r vs H2 Q := by
  refine P H2 vs ds _ Q d R2.tb a2 e2 fun v H3 A rA nd nw c => ?_
  refine q v H3 Fs2 A (R2.chg c) ((s2.trans (Stp.of (M := []) c)).mono fun i hi => by simpa using hi) rA ⟨nd, fun a ha => .inr ?_⟩
  have z := R2.loose (nw a ha)
  exact ⟨s2.chg.back z.1, z.2⟩
theorem fin_top (P : PrimV G r p) (R2 : Rel G C H2 σ E' Fs2) (s2 : Stp M H H2 E E' Fs Fs2) (a2 : ArgsOk G σ H H2 E' Fs2 ks ds vs FF) (e2 : p ds = some d)
    (q : ∀ v H' Fs' F, Rel G C H' σ E' Fs' → Stp M H H' E E' Fs Fs' → Rds G H' d v F → KOk σ H E' Fs' (kTop ks) d v F → Q v H') : r vs H2 Q := by
  refine P H2 vs ds _ Q d R2.tb a2.rds e2 fun v H3 A rA nd nw tp c => ?_
  refine q v H3 Fs2 A (R2.chg c) ((s2.trans (Stp.of (M := []) c)).mono fun i hi => by simpa using hi) rA ?_
  have vw : Vw H E' Fs2 (ks.map Kind.S).flatten A := fun a ha => by
    rcases nw a ha with z | z
    · exact a2.vw a z
    · have z := R2.loose z
      exact .inr ⟨s2.chg.back z.1, z.2⟩
  unfold kTop
  by_cases hk : (ks.all fun k => decide (k = Kind.own)) = true
  · rw [if_pos hk]
    have hk' : ∀ k ∈ ks, k = Kind.own := fun k hk1 => of_decide_eq_true (List.all_eq_true.mp hk k hk1)
    have e0 : (ks.map Kind.S).flatten = [] := by
      rw [List.flatten_eq_nil_iff]
      intro l hl
      obtain ⟨k, h1, rfl⟩ := List.mem_map.mp hl
      rw [hk' k h1]
      rfl
    rw [e0] at vw
    exact ⟨nd (a2.nodup hk'), vw⟩
  · rw [if_neg hk]
    refine ⟨vw, fun a t n e => ?_⟩
    have z := R2.loose (tp a t n e)
    exact ⟨s2.chg.back z.1, z.2⟩
def kPart : List Kind → Kind
  | .own :: _ => .own
  | .sub i :: _ => .sub i
  | .top S :: _ => .vw S
  | .vw S :: _ => .vw S
  | .ref i :: _ => .sub i
  | [] => .own
theorem fin_part {k : Kind} (P : PrimE G r p) (R2 : Rel G C H2 σ E' Fs2) (s2 : Stp M H H2 E E' Fs Fs2) (a2 : ArgsOk G σ H H2 E' Fs2 (k :: ks) ds vs FF) (e2 : p ds = some d)
    (q : ∀ v H' Fs' F, Rel G C H' σ E' Fs' → Stp M H H' E E' Fs Fs' → Rds G H' d v F → KOk σ H E' Fs' (kPart (k :: ks)) d v F → Q v H') : r vs H2 Q := by
  obtain ⟨d1, ds', v1, vs', F1, FF', rfl, rfl, rfl, h4, h5, h6, h7⟩ := a2
  refine P H2 d1 v1 F1 vs' ds' _ Q d R2.tb h4 h7.rds e2 fun v H3 A rA sb c => ?_
  refine q v H3 Fs2 A (R2.chg c) ((s2.trans (Stp.of (M := []) c)).mono fun i hi => by simpa using hi) rA ?_
  have vw : Vw H E' Fs2 k.S A := fun a ha => h5.vw a (sb.subset ha)
  cases k with
  | own => exact ⟨sb.nodup h5.1, vw⟩
  | sub i => exact ⟨h5.1, sb.trans h5.2⟩
  | top S => exact vw
  | vw S => exact vw
  | ref i =>
    obtain ⟨m, e, _, rfl⟩ := h5
    exact ⟨⟨_, _, e⟩, sb⟩
end
theorem prim_own (P : PrimF G r p) (h : tV G M .own (ePrim p l) σ H Q) : tVL G M ks l σ H fun vs H2 => r vs H2 Q := by
  obtain ⟨C, E, Fs, R, d, E', e, q⟩ := h
  obtain ⟨ds, e1, e2⟩ := ePrim_some e
  exact ⟨C, E, Fs, R, ds, E', e1, fun vs H2 Fs2 FF R2 s2 a2 => fin_own P R2 s2 a2.rds e2 q⟩
theorem prim_top (P : PrimV G r p) (h : tV G M (kTop ks) (ePrim p l) σ H Q) : tVL G M ks l σ H fun vs H2 => r vs H2 Q := by
  obtain ⟨C, E, Fs, R, d, E', e, q⟩ := h
  obtain ⟨ds, e1, e2⟩ := ePrim_some e
  exact ⟨C, E, Fs, R, ds, E', e1, fun vs H2 Fs2 FF R2 s2 a2 => fin_top P R2 s2 a2 e2 q⟩
theorem prim_part {k : Kind} (P : PrimE G r p) (h : tV G M (kPart (k :: ks)) (ePrim p l) σ H Q) : tVL G M (k :: ks) l σ H fun vs H2 => r vs H2 Q := by
  obtain ⟨C, E, Fs, R, d, E', e, q⟩ := h
  obtain ⟨ds, e1, e2⟩ := ePrim_some e
  exact ⟨C, E, Fs, R, ds, E', e1, fun vs H2 Fs2 FF R2 s2 a2 => fin_part P R2 s2 a2 e2 q⟩
end
end
end VL
set_option maxHeartbeats 4000000
namespace VL
noncomputable section
open PySem PySem.Spec PyProof.Rows L2
open GxR (TabB Tabbed)
variable [LamT]
section
variable {G : Gb} {H : Hp} {v : V} {F : List Addr}
theorem rds_non : Rds G H .non v F ↔ v = .non ∧ F = [] := by unfold Rds; exact Iff.rfl
theorem rds_bl {b : Bool} : Rds G H (.bl b) v F ↔ v = .bl b ∧ F = [] := by unfold Rds; exact Iff.rfl
theorem rds_int {i : Int} : Rds G H (.int i) v F ↔ v = .int i ∧ F = [] := by unfold Rds; exact Iff.rfl
theorem rds_str {s : Str} : Rds G H (.str s) v F ↔ v = .str s ∧ F = [] := by unfold Rds; exact Iff.rfl
theorem rds_tup {ds : List D} : Rds G H (.tup ds) v F ↔ ∃ a xs, v = .ref a ∧ SqT G.K H a xs ∧ RdsL G H ds xs F := by unfold Rds; exact Iff.rfl
theorem rds_lst {ds : List D} : Rds G H (.lst ds) v F ↔ ∃ a xs A, v = .ref a ∧ H a = some (.lst xs) ∧ RdsL G H ds xs A ∧ F = a :: A := by unfold Rds; exact Iff.rfl
theorem rds_dct {ks : List Key} {ds : List D} : Rds G H (.dct ks ds) v F ↔ ∃ a us A, v = .ref a ∧ H a = some (.dK us) ∧ (us.map (·.1) = ks ∧ ks.Nodup) ∧ RdsL G H ds (us.map (·.2)) A ∧ F = a :: A := by unfold Rds; exact Iff.rfl
theorem rds_scr {ns : List Int} : Rds G H (.scr ns) v F ↔ ∃ a, v = .ref a ∧ ScrAt G.K H a (ns.map V.int) ∧ F = [] := by unfold Rds; exact Iff.rfl
theorem rdsL_nil {vs : List V} : RdsL G H [] vs F ↔ vs = [] ∧ F = [] := by unfold RdsL; exact Iff.rfl
theorem rdsL_cons {d : D} {ds : List D} {vs : List V} : RdsL G H (d :: ds) vs F ↔ ∃ x r A B, vs = x :: r ∧ F = A ++ B ∧ Rds G H d x A ∧ RdsL G H ds r B := by
  rw [RdsL]
theorem rdsL1 {d : D} {vs : List V} (h : RdsL G H [d] vs F) : ∃ x, vs = [x] ∧ Rds G H d x F := by
  obtain ⟨x, r, A, B, rfl, rfl, h1, h2⟩ := rdsL_cons.mp h
  obtain ⟨rfl, rfl⟩ := rdsL_nil.mp h2
  exact ⟨x, rfl, by rw [List.append_nil]; exact h1⟩
theorem rdsL2 {d e : D} {vs : List V} (h : RdsL G H [d, e] vs F) : ∃ x y A B, vs = [x, y] ∧ F = A ++ B ∧ Rds G H d x A ∧ Rds G H e y B := by
  obtain ⟨x, r, A, B, rfl, rfl, h1, h2⟩ := rdsL_cons.mp h
  obtain ⟨y, rfl, h3⟩ := rdsL1 h2
  exact ⟨x, y, A, B, rfl, rfl, h1, h3⟩
theorem rdsL_len : ∀ {ds : List D} {vs : List V} {F : List Addr}, RdsL G H ds vs F → vs.length = ds.length
  | [], _, _, h => by rw [(rdsL_nil.mp h).1]; rfl
  | d :: ds, _, _, h => by
    obtain ⟨x, r, A, B, rfl, rfl, h1, h2⟩ := rdsL_cons.mp h
    rw [List.length_cons, List.length_cons, rdsL_len h2]
theorem rdsL_app : ∀ {ds es : List D} {vs us : List V} {A B : List Addr}, RdsL G H ds vs A → RdsL G H es us B → RdsL G H (ds ++ es) (vs ++ us) (A ++ B)
  | [], _, _, _, _, _, h, h' => by
    obtain ⟨rfl, rfl⟩ := rdsL_nil.mp h
    exact h'
  | d :: ds, es, _, us, _, B, h, h' => by
    obtain ⟨x, r, A1, A2, rfl, rfl, h1, h2⟩ := rdsL_cons.mp h
    exact rdsL_cons.mpr ⟨x, r ++ us, A1, A2 ++ B, rfl, by rw [List.append_assoc], h1, rdsL_app h2 h'⟩
theorem rdsL_get : ∀ {ds : List D} {vs : List V} {F : List Addr} {i : Nat} {d : D}, RdsL G H ds vs F → ds[i]? = some d → ∃ x A, vs[i]? = some x ∧ Rds G H d x A ∧ A.Sublist F
  | [], _, _, i, d, h, e => by simp at e
  | d' :: ds, _, _, i, d, h, e => by
    obtain ⟨x, r, A, B, rfl, rfl, h1, h2⟩ := rdsL_cons.mp h
    cases i with
    | zero =>
      simp at e
      subst e
      exact ⟨x, A, rfl, h1, List.sublist_append_left ..⟩
    | succ i =>
      obtain ⟨y, A', h3, h4, h5⟩ := rdsL_get h2 (by simpa using e)
      exact ⟨y, A', by simpa using h3, h4, h5.trans (List.sublist_append_right ..)⟩
theorem rdsL_ints : ∀ {ns : List Int} {vs : List V} {F : List Addr}, RdsL G H (ns.map D.int) vs F → vs = ns.map V.int ∧ F = []
  | [], _, _, h => rdsL_nil.mp h
  | n :: ns, _, _, h => by
    obtain ⟨x, r, A, B, rfl, rfl, h1, h2⟩ := rdsL_cons.mp h
    obtain ⟨rfl, rfl⟩ := rds_int.mp h1
    obtain ⟨rfl, rfl⟩ := rdsL_ints h2
    exact ⟨rfl, rfl⟩
theorem rdsL_mk_ints : ∀ (ns : List Int), RdsL G H (ns.map D.int) (ns.map V.int) []
  | [] => rdsL_nil.mpr ⟨rfl, rfl⟩
  | n :: ns => rdsL_cons.mpr ⟨_, _, [], [], rfl, rfl, rds_int.mpr ⟨rfl, rfl⟩, rdsL_mk_ints ns⟩
end
mutual
def D.py : D → Option PyData
  | .non => some .none
  | .bl b => some (.bool b)
  | .int i => some (.int i)
  | .str s => some (.str s)
  | .tup ds => (D.pyL ds).map .tuple
  | .lst ds => (D.pyL ds).map .list
  | .scr ns => some (.list (ns.map .int))
  | .dct _ _ => none
  | .obj _ _ _ => none
  | .any => none
  | .exn _ _ _ => none
def D.pyL : List D → Option (List PyData)
  | [] => some []
  | d :: ds => match d.py, D.pyL ds with
    | some p, some ps => some (p :: ps)
    | _, _ => none
end
section
variable {G : Gb} {H : Hp}
theorem dp_ints {K : PySem.W.Frag} : ∀ ns : List Int, DpAll K H (ns.map V.int) (ns.map PyData.int)
  | [] => .nil
  | n :: ns => .cons (.int n) (dp_ints ns)
mutual
theorem Rds.dp : ∀ (d : D) (v : V) (F : List Addr) (p : PyData), d.py = some p → Rds G H d v F → Dp G.K H v p
  | .non, v, F, p, e, h => by
    rw [D.py] at e
    cases e
    rw [(rds_non.mp h).1]
    exact .non
  | .bl b, v, F, p, e, h => by
    rw [D.py] at e
    cases e
    rw [(rds_bl.mp h).1]
    exact .bl b
  | .int i, v, F, p, e, h => by
    rw [D.py] at e
    cases e
    rw [(rds_int.mp h).1]
    exact .int i
  | .str s, v, F, p, e, h => by
    rw [D.py] at e
    cases e
    rw [(rds_str.mp h).1]
    exact .str s
  | .tup ds, v, F, p, e, h => by
    rw [D.py] at e
    cases e1 : D.pyL ds with
    | none => rw [e1] at e; cases e
    | some ps =>
      rw [e1] at e
      cases e
      obtain ⟨a, xs, rfl, h1, h2⟩ := rds_tup.mp h
      exact .tup h1 (RdsL.dp ds xs F ps e1 h2)
  | .lst ds, v, F, p, e, h => by
    rw [D.py] at e
    cases e1 : D.pyL ds with
    | none => rw [e1] at e; cases e
    | some ps =>
      rw [e1] at e
      cases e
      obtain ⟨a, xs, A, rfl, h1, h2, rfl⟩ := rds_lst.mp h
      exact .lst (SqL.of h1) (RdsL.dp ds xs A ps e1 h2)
  | .scr ns, v, F, p, e, h => by
    rw [D.py] at e
    cases e
    obtain ⟨a, rfl, h1, _⟩ := rds_scr.mp h
    exact .lst h1.sql (dp_ints ns)
  | .dct _ _, v, F, p, e, h => by rw [D.py] at e; cases e
  | .obj _ _ _, v, F, p, e, h => by rw [D.py] at e; cases e
  | .any, _, _, _, e, _ => by rw [D.py] at e; cases e
  | .exn _ _ _, _, _, _, e, _ => by rw [D.py] at e; cases e
theorem RdsL.dp : ∀ (ds : List D) (vs : List V) (F : List Addr) (ps : List PyData), D.pyL ds = some ps → RdsL G H ds vs F → DpAll G.K H vs ps
  | [], vs, F, ps, e, h => by
    rw [D.pyL] at e
    cases e
    rw [(rdsL_nil.mp h).1]
    exact .nil
  | d :: ds, vs, F, ps, e, h => by
    rw [D.pyL] at e
    obtain ⟨x, r, A, B, rfl, rfl, h1, h2⟩ := rdsL_cons.mp h
    cases e1 : d.py with
    | none => rw [e1] at e; cases e
    | some p =>
      cases e2 : D.pyL ds with
      | none => rw [e1, e2] at e; cases e
      | some ps' =>
        rw [e1, e2] at e
        cases e
        exact .cons (Rds.dp d x A p e1 h1) (RdsL.dp ds r B ps' e2 h2)
end
end
structure XOk (G : Gb) (X : Cx) : Prop where
  K : X.K = G.K
  calm : X.calm = true
  un : X.A.units + 70 < cLine
section
variable {G : Gb} {X : Cx} {a b c e : Expr} {es : List Expr} {M M' M2 : List Nat} {k k' k2 : Kind} {ks : List Kind} {f g h : EF} {l : LF} {p : List D → Option D} {pos : Pos} {σ : L2.St} {H : Hp}
theorem safe_nil (k : Kind) : k.safe [] = true := by
  unfold Kind.safe
  exact List.all_eq_true.mpr fun i _ => rfl
theorem nil_of {R : List V → Hp → Prop} (h : tVL G [] [] lNil σ H R) : R [] H := by
  obtain ⟨C, E, Fs, R, ds, E', e, q⟩ := h
  cases e
  exact q [] H Fs [] R Stp.refl ⟨rfl, rfl, rfl⟩
theorem tV.mono {Q Q' : VK} (h : tV G M k f σ H Q) (i : ∀ v H, Q v H → Q' v H) : tV G M k f σ H Q' := by
  obtain ⟨C, E, Fs, R, d, E', e, q⟩ := h
  exact ⟨C, E, Fs, R, d, E', e, fun v H' Fs' F h1 h2 h3 h4 => i _ _ (q v H' Fs' F h1 h2 h3 h4)⟩
theorem tVL.mono {Q Q' : List V → Hp → Prop} (h : tVL G M ks l σ H Q) (i : ∀ v H, Q v H → Q' v H) : tVL G M ks l σ H Q' := by
  obtain ⟨C, E, Fs, R, d, E', e, q⟩ := h
  exact ⟨C, E, Fs, R, d, E', e, fun v H' Fs' F h1 h2 h3 => i _ _ (q v H' Fs' F h1 h2 h3)⟩
theorem one_of {R : List V → Hp → Prop} (h : tVL G M [k] (lCons f lNil) σ H R) : tV G M k f σ H fun x H1 => R [x] H1 := by
  have h' : tVL G (M ++ []) [k] (lCons f lNil) σ H R := by rw [List.append_nil]; exact h
  exact (seq_cons (safe_nil k) h').mono fun x H1 q => nil_of q
theorem two_of {R : List V → Hp → Prop} (sf : k.safe M' = true) (h : tVL G (M ++ M') [k, k'] (lCons f (lCons g lNil)) σ H R) : tV G M k f σ H fun x H1 => tV G M' k' g σ H1 fun y H2 => R [x, y] H2 :=
  (seq_cons sf h).mono fun x H1 q => one_of q
def eVar (i : Nat) : EF := fun E => match E[i]? with
  | some (some (_, d)) => some (d, E)
  | _ => none
def eC (d : D) : EF := fun E => some (d, E)
theorem ve_var {i : Nat} (h : PE X e (tVar i)) : VE G X e [] (.sub i) (eVar i) := PE.imp h fun σ H Q ⟨C, E, Fs, R, d, E', e, q⟩ => by
  unfold eVar at e
  split at e
  · rename_i m d' e1
    cases e
    obtain ⟨v, h1, h2, _⟩ := R.rd i m _ e1
    exact ⟨v, h1, q v H Fs _ R Stp.refl h2 ⟨⟨_, _, e1⟩, List.Sublist.refl _⟩⟩
  · cases e
theorem ve_c {d : D} {v : V} (h : PE X e (tC v)) (hd : ∀ G H, Rds G H d v []) : VE G X e [] .own (eC d) := PE.imp h fun σ H Q ⟨C, E, Fs, R, d', E', e, q⟩ => by
  cases e
  exact q v H Fs [] R Stp.refl (hd _ _) ⟨List.nodup_nil, fun a ha => by cases ha⟩
theorem ve_int {i : Int} {j} : VE G X (.Constant (.int i) j pos) [] .own (eC (.int i)) := ve_c pe_int fun _ _ => rds_int.mpr ⟨rfl, rfl⟩
theorem ve_bl {i : Bool} {j} : VE G X (.Constant (.bool i) j pos) [] .own (eC (.bl i)) := ve_c pe_bl fun _ _ => rds_bl.mpr ⟨rfl, rfl⟩
theorem ve_non {j} : VE G X (.Constant .none j pos) [] .own (eC .non) := ve_c pe_non fun _ _ => rds_non.mpr ⟨rfl, rfl⟩
theorem ve_str {x : Str} {j} : VE G X (.Constant (.str x) j pos) [] .own (eC (.str x)) := ve_c pe_str fun _ _ => rds_str.mpr ⟨rfl, rfl⟩
def r2 (r : R2) : List V → Hp → VK → Prop := fun vs H Q => ∃ x y, vs = [x, y] ∧ r x y H Q
theorem r2_of {r : R2} {x y : V} {Q : VK} (h : r2 r [x, y] H Q) : r x y H Q := by
  obtain ⟨_, _, e, q⟩ := h
  cases e
  exact q
theorem ve_op {op : Operator} {r : R2} (ho : OpR X (binaryOp op) r) (P : PrimF G (r2 r) p) (ha : VE G X a M k f) (hb : VE G X b M' k' g) (sf : k.safe M' = true := by rfl) : VE G X (.BinOp a op b pos) (M ++ M') .own (ePrim p (lCons f (lCons g lNil))) :=
  PE.imp (pe_op ho ha hb) fun σ H Q h => (two_of sf (prim_own P h)).mono fun x H1 q => q.mono fun y H2 q => r2_of q
theorem ve_opV {op : Operator} {r : R2} (ho : OpR X (binaryOp op) r) (P : PrimV G (r2 r) p) (ha : VE G X a M k f) (hb : VE G X b M' k' g) (sf : k.safe M' = true := by rfl) : VE G X (.BinOp a op b pos) (M ++ M') (kTop [k, k']) (ePrim p (lCons f (lCons g lNil))) :=
  PE.imp (pe_op ho ha hb) fun σ H Q h => (two_of sf (prim_top P h)).mono fun x H1 q => q.mono fun y H2 q => r2_of q
theorem ve_cmp {op : CmpOp} {r : R2} (ho : OpR X (compareOp op) r) (P : PrimF G (r2 r) p) (ha : VE G X a M k f) (hb : VE G X b M' k' g) (hm : behindInMarks op b = false) (sf : k.safe M' = true := by rfl) : VE G X (.Compare a [op] [b] pos) (M ++ M') .own (ePrim p (lCons f (lCons g lNil))) :=
  PE.imp (pe_cmpR ho ha hb hm) fun σ H Q h => (two_of sf (prim_own P h)).mono fun x H1 q => q.mono fun y H2 q => r2_of q
theorem ve_un {op : UnaryOp} {r : V → Hp → VK → Prop} (ho : UnR X (unaryOp op) r) (P : PrimF G (fun vs H Q => ∃ x, vs = [x] ∧ r x H Q) p) (ha : VE G X a M k f) : VE G X (.UnaryOp op a pos) M .own (ePrim p (lCons f lNil)) :=
  PE.imp (pe_un ho ha) fun σ H Q h => (one_of (prim_own P h)).mono fun x H1 ⟨y, e, q⟩ => by cases e; exact q
theorem ve_ix {r : R2} (hr : IxR X r) (P : PrimE G (r2 r) p) (ha : VE G X a M k f) (hb : VE G X b M' k' g) (hs : PlainIx b := by intro _ _; rfl) (sf : k.safe M' = true := by rfl) : VE G X (.Subscript a b pos) (M ++ M') (kPart [k, k']) (ePrim p (lCons f (lCons g lNil))) :=
  PE.imp (pe_ix hr ha hb hs) fun σ H Q h => (two_of sf (prim_part P h)).mono fun x H1 q => q.mono fun y H2 q => r2_of q
theorem ve_callB {id : String} {x : Str} {q : Pos} {r : List V → Hp → VK → Prop} (hc : CallR X (.builtin id) r) (P : PrimF G r p) (hg : Gl X x) (hm : X.mg x = none) (hv : bootBuiltins x = some (.builtin id)) (ha : VL G X (e :: es) M ks l)
    (hn : x ≠ "__name__" := by decide) (hdb : (x == ("__debug__" : Str)) = false := by decide) (he : starEach (e :: es) X.env = (false, eval e X.env) :: starEach es X.env := by rfl) (hpl : (backTo pos (starEach es X.env)).any (·.1) = false := by rfl) :
    VE G X (.Call (.Name x q) (e :: es) [] pos) M .own (ePrim p l) :=
  PE.imp (pe_callB hc hg hm hv ha hn hdb he hpl) fun σ H Q h => prim_own P h
theorem ve_callTy {T : String} {x : Str} {q : Pos} {r : List V → Hp → VK → Prop} (hc : CallR X (.type T) r) (P : PrimV G r p) (hg : Gl X x) (hm : X.mg x = none) (hv : bootBuiltins x = some (.type T)) (ha : VL G X (e :: es) M ks l)
    (hn : x ≠ "__name__" := by decide) (hdb : (x == ("__debug__" : Str)) = false := by decide) (he : starEach (e :: es) X.env = (false, eval e X.env) :: starEach es X.env := by rfl) (hpl : (backTo pos (starEach es X.env)).any (·.1) = false := by rfl) :
    VE G X (.Call (.Name x q) (e :: es) [] pos) M (kTop ks) (ePrim p l) :=
  PE.imp (pe_callTy hc hg hm hv ha hn hdb he hpl) fun σ H Q h => prim_top P h
def pTup : List D → Option D := fun ds => if sl (decide (ds.length ≤ sizeLine)) then some (.tup ds) else none
def pLst : List D → Option D := fun ds => if sl (decide (ds.length ≤ sizeLine)) then some (.lst ds) else none
theorem prim_tup : PrimV G (fun xs H Q => xs.length ≤ sizeLine ∧ ∀ p, H p = none → Q (.ref p) (upd H p (.tup xs))) pTup := fun H vs ds F Q d tb r e q => by
  unfold pTup at e
  split at e
  · rename_i hl
    replace hl := sl_iff.mp hl
    cases e
    refine ⟨by rw [rdsL_len r]; exact hl, fun p np => ?_⟩
    have c : Chg No H (upd H p (.tup vs)) := Chg.new np
    exact q _ _ F (rds_tup.mpr ⟨p, vs, rfl, SqT.of upd_same, RdsL.chg c ds vs F (fun _ _ z => z) r⟩) id (fun a ha => .inl ha) (fun a t n => by cases n) c
  · cases e
theorem prim_lst : PrimV G (fun xs H Q => xs.length ≤ sizeLine ∧ ∀ p, H p = none → Q (.ref p) (upd H p (.lst xs))) pLst := fun H vs ds F Q d tb r e q => by
  unfold pLst at e
  split at e
  · rename_i hl
    replace hl := sl_iff.mp hl
    cases e
    refine ⟨by rw [rdsL_len r]; exact hl, fun p np => ?_⟩
    have c : Chg No H (upd H p (.lst vs)) := Chg.new np
    have nF : p ∉ F := fun hp => by
      obtain ⟨o, eo, _⟩ := RdsL.trk ds vs F r p hp
      rw [np] at eo
      cases eo
    refine q _ _ (p :: F) (rds_lst.mpr ⟨p, vs, F, rfl, upd_same, RdsL.chg c ds vs F (fun _ _ z => z) r, rfl⟩) (fun nd => List.nodup_cons.mpr ⟨nF, nd⟩) (fun a ha => ?_) (fun a t n e => ?_) c
    · rcases List.mem_cons.mp ha with rfl | ha
      · exact .inr np
      · exact .inl ha
    · cases e
      exact np
  · cases e
theorem ve_tup {x1} (h : VL G X es M ks l) : VE G X (.Tuple es x1 pos) M (kTop ks) (ePrim pTup l) := PE.imp (pe_tup h) fun σ H Q h => prim_top prim_tup h
theorem ve_lst (h : VL G X es M ks l) : VE G X (.List es pos) M (kTop ks) (ePrim pLst l) := PE.imp (pe_lst h) fun σ H Q h => prim_top prim_lst h
abbrev TF := Env → Option (Bool × Env)
def tVT (G : Gb) (M : List Nat) (f : TF) : TT := fun σ H Q => ∃ C E Fs, Rel G C H σ E Fs ∧ ∃ b E', f E = some (b, E') ∧ ∀ H' Fs', Rel G C H' σ E' Fs' → Stp M H H' E E' Fs Fs' → Q b H'
abbrev VT (G : Gb) (X : Cx) (e : Expr) (M : List Nat) (f : TF) : Prop := PT X e (tVT G M f)
abbrev VW (G : Gb) (X : Cx) (e : Expr) (M : List Nat) (f : TF) : Prop := PW X e (tVT G M f)
def toT (f : EF) : TF := fun E => match f E with
  | some (.bl b, E') => some (b, E')
  | _ => none
theorem tV_of_T {Q : Bool → Hp → Prop} (h : tVT G M (toT f) σ H Q) : tV G M k f σ H fun x H' => ∃ b, x = .bl b ∧ Q b H' := by
  obtain ⟨C, E, Fs, R, b, E', e, q⟩ := h
  unfold toT at e
  split at e
  · rename_i b' E1 e1
    cases e
    exact ⟨C, E, Fs, R, _, _, e1, fun v H' Fs' F R' s' r' _ => ⟨b, (rds_bl.mp r').1, q H' Fs' R' s'⟩⟩
  · cases e
theorem vt_cmp {op : CmpOp} {r : R2} (ho : OpR X (compareOp op) r) (P : PrimF G (r2 r) p) (ha : VE G X a M k f) (hb : VE G X b M' k' g) (hm : behindInMarks op b = false) (sf : k.safe M' = true := by rfl) : VT G X (.Compare a [op] [b] pos) (M ++ M') (toT (ePrim p (lCons f (lCons g lNil)))) :=
  PT.imp (pt_cmpR ho ha hb hm) fun σ H Q h => (two_of sf (prim_own P (tV_of_T h))).mono fun x H1 q => q.mono fun y H2 q => r2_of q
def tfAnd (f g : TF) : TF := fun E => match f E with
  | some (true, E') => g E'
  | some (false, E') => some (false, E')
  | none => none
def tfOr (f g : TF) : TF := fun E => match f E with
  | some (false, E') => g E'
  | some (true, E') => some (true, E')
  | none => none
def tfNot (f : TF) : TF := fun E => match f E with
  | some (b, E') => some (!b, E')
  | none => none
variable {t u : TF} {rest : List Expr}
theorem and_of {Q : Bool → Hp → Prop} (h : tVT G (M ++ M') (tfAnd t u) σ H Q) : tAnd (tVT G M t) (tVT G M' u) σ H Q := by
  obtain ⟨C, E, Fs, R, b, E', e, q⟩ := h
  unfold tfAnd at e
  split at e
  · rename_i E1 e1
    refine ⟨C, E, Fs, R, true, E1, e1, fun H' Fs' R' s' => ?_⟩
    refine ite_tt ?_
    exact ⟨C, E1, Fs', R', b, E', e, fun H2 Fs2 R2 s2 => q H2 Fs2 R2 (s'.trans s2)⟩
  · rename_i E1 e1
    cases e
    exact ⟨C, E, Fs, R, false, _, e1, fun H' Fs' R' s' => q H' Fs' R' (s'.mono fun i hi => List.mem_append_left _ hi)⟩
  · cases e
theorem or_of {Q : Bool → Hp → Prop} (h : tVT G (M ++ M') (tfOr t u) σ H Q) : tOr (tVT G M t) (tVT G M' u) σ H Q := by
  obtain ⟨C, E, Fs, R, b, E', e, q⟩ := h
  unfold tfOr at e
  split at e
  · rename_i E1 e1
    refine ⟨C, E, Fs, R, false, E1, e1, fun H' Fs' R' s' => ?_⟩
    refine ite_ff ?_
    exact ⟨C, E1, Fs', R', b, E', e, fun H2 Fs2 R2 s2 => q H2 Fs2 R2 (s'.trans s2)⟩
  · rename_i E1 e1
    cases e
    exact ⟨C, E, Fs, R, true, _, e1, fun H' Fs' R' s' => q H' Fs' R' (s'.mono fun i hi => List.mem_append_left _ hi)⟩
  · cases e
theorem PW.imp {X : Cx} {e : Expr} {t t' : TT} (h : PW X e t) (i : ∀ σ H Q, t' σ H Q → t σ H Q) : PW X e t' := ⟨fun w pins s σ H Q I q => h.run w pins s σ H Q I (i σ H Q q)⟩
theorem vw_and1 (h : VT G X a M t) : VW G X (.BoolOp .And [a] pos) M t := pw_and1 h
theorem vw_or1 (h : VT G X a M t) : VW G X (.BoolOp .Or [a] pos) M t := pw_or1 h
theorem vw_and (ha : VT G X a M t) (hb : VW G X (.BoolOp .And (b :: rest) pos) M' u) : VW G X (.BoolOp .And (a :: b :: rest) pos) (M ++ M') (tfAnd t u) := PW.imp (pw_and ha hb) fun σ H Q h => and_of h
theorem vw_or (ha : VT G X a M t) (hb : VW G X (.BoolOp .Or (b :: rest) pos) M' u) : VW G X (.BoolOp .Or (a :: b :: rest) pos) (M ++ M') (tfOr t u) := PW.imp (pw_or ha hb) fun σ H Q h => or_of h
theorem vt_w (h : VW G X e M t) : VT G X e M t := h.pt
theorem vt_not (h : VT G X a M t) : VT G X (.UnaryOp .Not a pos) M (tfNot t) := PT.imp (pt_not h) fun σ H Q ⟨C, E, Fs, R, b, E', e, q⟩ => by
  unfold tfNot at e
  split at e
  · rename_i b' E1 e1
    cases e
    exact ⟨C, E, Fs, R, b', _, e1, q⟩
  · cases e
def eIf (t : TF) (f g : EF) : EF := fun E => match t E with
  | some (true, E') => f E'
  | some (false, E') => g E'
  | none => none
def kIf (k k' : Kind) : Kind := if k = k' then k else match k, k' with
  | .own, .top S => .top S
  | .top S, .own => .top S
  | _, _ => .vw (k.S ++ k'.S)
theorem Vw.sup {H : Hp} {E : Env} {Fs : Nat → List Addr} {S S' : List Nat} {F : List Addr} (h : Vw H E Fs S F) (i : ∀ x ∈ S, x ∈ S') : Vw H E Fs S' F := fun a ha => by
  rcases h a ha with ⟨j, hj, z⟩ | z
  · exact .inl ⟨j, i j hj, z⟩
  · exact .inr z
theorem KOk.own_top {σ : L2.St} {v : V} {H : Hp} {E : Env} {Fs : Nat → List Addr} {S : List Nat} {d : D} {F : List Addr} (h : KOk σ H E Fs .own d v F) : KOk σ H E Fs (.top S) d v F :=
  ⟨h.2.sup (fun _ hx => by cases hx), fun a r n e => by
    rcases h.2 a (by rw [e]; exact List.mem_cons_self) with ⟨_, z, _⟩ | z
    · cases z
    · exact z⟩
theorem kIf_l {v : V} {H : Hp} {E : Env} {Fs : Nat → List Addr} {d : D} {F : List Addr} (h : KOk σ H E Fs k d v F) : KOk σ H E Fs (kIf k k') d v F := by
  unfold kIf
  split
  · exact h
  · cases k <;> cases k' <;> first | exact h.own_top | exact h | exact h.vw.sup (fun x hx => List.mem_append_left _ hx)
theorem kIf_r {v : V} {H : Hp} {E : Env} {Fs : Nat → List Addr} {d : D} {F : List Addr} (h : KOk σ H E Fs k' d v F) : KOk σ H E Fs (kIf k k') d v F := by
  unfold kIf
  split
  · rename_i e
    rw [e]
    exact h
  · cases k <;> cases k' <;> first | exact h.own_top | exact h | exact h.vw.sup (fun x hx => List.mem_append_right _ hx)
theorem ve_if (hc : VT G X c M t) (ha : VE G X a M' k f) (hb : VE G X b M2 k' g) : VE G X (.IfExp c a b pos) (M ++ (M' ++ M2)) (kIf k k') (eIf t f g) := PE.imp (pe_ifExp hc ha hb) fun σ H Q ⟨C, E, Fs, R, d, E', e, q⟩ => by
  unfold eIf at e
  split at e
  · rename_i E1 e1
    refine ⟨C, E, Fs, R, true, E1, e1, fun H1 Fs1 R1 s1 => ?_⟩
    refine ite_tt ?_
    exact ⟨C, E1, Fs1, R1, d, E', e, fun v H2 Fs2 F R2 s2 r2 k2 => q v H2 Fs2 F R2 ((s1.trans s2).mono fun i hi => by simp only [List.mem_append] at hi ⊢; rcases hi with z | z; exact .inl z; exact .inr (.inl z)) r2 (kIf_l (k2.base s1.chg))⟩
  · rename_i E1 e1
    refine ⟨C, E, Fs, R, false, E1, e1, fun H1 Fs1 R1 s1 => ?_⟩
    refine ite_ff ?_
    exact ⟨C, E1, Fs1, R1, d, E', e, fun v H2 Fs2 F R2 s2 r2 k2 => q v H2 Fs2 F R2 ((s1.trans s2).mono fun i hi => by simp only [List.mem_append] at hi ⊢; rcases hi with z | z; exact .inl z; exact .inr (.inr z)) r2 (kIf_r (k2.base s1.chg))⟩
  · cases e
end
end
end VL
set_option maxHeartbeats 4000000
namespace VL
noncomputable section
open PySem PySem.Spec PyProof.Rows L2
open GxR (TabB Tabbed)
variable [LamT]
section
variable {G : Gb} {X : Cx}
theorem ix_dict (hu : X.A.units + 1 < cLine) : IxR X (fun x y H Q => ∃ a v, x = .ref a ∧ DGet H a y (some v) ∧ Q v H) := by
  intro value slice pins s σ H x y v u Q I rx ry h hs
  obtain ⟨a, z, rfl, g, q⟩ := h
  cases rx
  unfold subscriptTail
  refine wpAny_bind ?_
  have hT := dict_typeIs I g
  rw [getitemInPython_of_ne hT.not_modules]
  refine wpAny_bind (wpAny_specialOf hT PySem.F.slot_dict_getitem.lookup ?_)
  have fin : wpAny (model X.prog X.w) X.A (subscripted slice false (.ref a) u) (fun r s₃ => wpAny (model X.prog X.w) X.A (letTemporaryGo value (.ref a) r >>= fun _ => pure r) (EP X pins σ Q) X.xe s₃) X.xe s := by
    rw [hs]
    exact wpAny_operating (d_getItem hu I g ry fun w' s3 I3 rw' => wpAny_bind (wpAny_letTemporaryGo (wpAny_pure ⟨z, H, I3, rw', q⟩)))
  first
    | exact wpAny_pure (wpAny_bind fin)
    | exact wpAny_bind (wpAny_pure (wpAny_bind fin))
    | exact wpAny_bind fin
def pI2 (c : Int → Int → Bool) (g : Int → Int → D) : List D → Option D
  | [.int i, .int j] => if sl (c i j) then some (g i j) else none
  | _ => none
theorem q_atom {H : Hp} {Q : VK} {d : D} {v : V} (r : ∀ G H, Rds G H d v []) (q : ∀ v H' A, Rds G H' d v A → A.Nodup → (∀ a ∈ A, H a = none) → Chg No H H' → Q v H') : Q v H :=
  q v H [] (r G H) List.nodup_nil (fun a ha => by cases ha) (Chg.refl _ _)
theorem prim_I2 {c : Int → Int → Bool} {Cp : Int → Int → Prop} {g : Int → Int → D} {gv : Int → Int → V} (hc : ∀ i j, c i j = true → Cp i j) (hg : ∀ i j G H, Rds G H (g i j) (gv i j) []) : PrimF G (r2 (rI Cp gv)) (pI2 c g) := fun H vs ds F Q d tb r e q => by
  unfold pI2 at e
  split at e
  · rename_i i j
    split at e
    · rename_i h
      rw [sl_eq] at h
      cases e
      obtain ⟨x, y, A, B, rfl, rfl, h1, h2⟩ := rdsL2 r
      exact ⟨x, y, rfl, i, j, (rds_int.mp h1).1, (rds_int.mp h2).1, hc i j h, q_atom (hg i j) q⟩
    · cases e
  · cases e
theorem prim_I20 {g : Int → Int → D} {gv : Int → Int → V} (hg : ∀ i j G H, Rds G H (g i j) (gv i j) []) : PrimF G (r2 (rI0 gv)) (pI2 (fun _ _ => true) g) := fun H vs ds F Q d tb r e q => by
  unfold pI2 at e
  split at e
  · rename_i i j
    simp only [sl_eq, if_true] at e
    cases e
    obtain ⟨x, y, A, B, rfl, rfl, h1, h2⟩ := rdsL2 r
    exact ⟨x, y, rfl, i, j, (rds_int.mp h1).1, (rds_int.mp h2).1, q_atom (hg i j) q⟩
  · cases e
theorem hInt (i : Int) : ∀ G H, Rds G H (.int i) (.int i) [] := fun _ _ => rds_int.mpr ⟨rfl, rfl⟩
theorem hBl (i : Bool) : ∀ G H, Rds G H (.bl i) (.bl i) [] := fun _ _ => rds_bl.mpr ⟨rfl, rfl⟩
abbrev pSub := pI2 (fun _ _ => true) fun i j => .int (i - j)
abbrev pFdiv := pI2 (fun _ j => decide (0 < j ∧ j < 1073741824)) fun i j => .int (i / j)
abbrev pMod := pI2 (fun _ j => decide (0 < j)) fun i j => .int (i % j)
abbrev pPow := pI2 (fun i j => decide (0 ≤ j ∧ j ≤ 1000000 ∧ i.natAbs < 2 ^ 64)) fun i j => .int (i ^ j.toNat)
abbrev pLt := pI2 (fun _ _ => true) fun i j => .bl (decide (i < j))
abbrev pGt := pI2 (fun _ _ => true) fun i j => .bl (decide (j < i))
abbrev pGe := pI2 (fun _ _ => true) fun i j => .bl (decide (j ≤ i))
theorem prim_sub : PrimF G (r2 (rI0 fun i j => .int (i - j))) pSub := prim_I20 fun _ _ => hInt _
theorem prim_fdiv : PrimF G (r2 (rI CDiv fun i j => .int (i / j))) pFdiv := prim_I2 (fun i j h => show 0 < j ∧ j < 1073741824 from of_decide_eq_true h) fun _ _ => hInt _
theorem prim_mod : PrimF G (r2 (rI (fun _ j => 0 < j) fun i j => .int (i % j))) pMod := prim_I2 (fun i j h => of_decide_eq_true h) fun _ _ => hInt _
theorem prim_pow : PrimF G (r2 (rI CPow fun i j => .int (i ^ j.toNat))) pPow := prim_I2 (fun i j h => show 0 ≤ j ∧ j ≤ 1000000 ∧ i.natAbs < 2 ^ 64 from of_decide_eq_true h) fun _ _ => hInt _
theorem prim_lt : PrimF G (r2 (rI0 fun i j => .bl (decide (i < j)))) pLt := prim_I20 fun _ _ => hBl _
theorem prim_gt : PrimF G (r2 (rI0 fun i j => .bl (decide (j < i)))) pGt := prim_I20 fun _ _ => hBl _
theorem prim_ge : PrimF G (r2 (rI0 fun i j => .bl (decide (j ≤ i)))) pGe := prim_I20 fun _ _ => hBl _
def pNeg : List D → Option D
  | [.int i] => some (.int (-i))
  | _ => none
theorem prim_neg : PrimF G (fun vs H Q => ∃ x, vs = [x] ∧ (rU fun i => .int (-i)) x H Q) pNeg := fun H vs ds F Q d tb r e q => by
  unfold pNeg at e
  split at e
  · rename_i i
    cases e
    obtain ⟨x, rfl, h1⟩ := rdsL1 r
    exact ⟨x, rfl, i, (rds_int.mp h1).1, q_atom (hInt _) q⟩
  · cases e
def pAdd : List D → Option D
  | [.int i, .int j] => some (.int (i + j))
  | [.lst xs, .lst ys] => if sl (decide (xs.length + ys.length ≤ sizeLine)) then some (.lst (xs ++ ys)) else none
  | [.str x, .str y] => if sl (decide (x.length + y.length ≤ sizeLine)) then some (.str (x ++ y)) else none
  | _ => none
abbrev rAddAll : R2 := fun x y H Q => (rI0 fun i j => .int (i + j)) x y H Q ∨ (rCat x y H Q ∨ ∃ i j, x = .str i ∧ y = .str j ∧ i.length + j.length ≤ sizeLine ∧ Q (.str (i ++ j)) H)
theorem op_addAll : OpR X (binaryOp .Add) rAddAll := op_add.or (op_cat.or op_add_str)
theorem prim_add : PrimV G (r2 rAddAll) pAdd := fun H vs ds F Q d tb r e q => by
  unfold pAdd at e
  split at e
  · cases e
    obtain ⟨x, y, A, B, rfl, rfl, h1, h2⟩ := rdsL2 r
    exact ⟨x, y, rfl, .inl ⟨_, _, (rds_int.mp h1).1, (rds_int.mp h2).1, q _ H [] (hInt _ _ _) (fun _ => List.nodup_nil) (fun a ha => by cases ha) (fun a t n => by cases n) (Chg.refl _ _)⟩⟩
  · split at e
    · rename_i xs ys hl
      replace hl := sl_iff.mp hl
      cases e
      obtain ⟨x, y, A, B, rfl, rfl, h1, h2⟩ := rdsL2 r
      obtain ⟨a, us, A', rfl, h3, h4, rfl⟩ := rds_lst.mp h1
      obtain ⟨b, ws, B', rfl, h5, h6, rfl⟩ := rds_lst.mp h2
      refine ⟨_, _, rfl, .inr (.inl ⟨a, b, us, ws, rfl, rfl, h3, h5, by rw [rdsL_len h4, rdsL_len h6]; exact hl, fun p np => ?_⟩)⟩
      have c : Chg No H (upd H p (.lst (us ++ ws))) := Chg.new np
      have nt : ∀ z, z ∈ A' ++ B' → p ≠ z := fun z hz e => by
        obtain ⟨o, eo, _⟩ := RdsL.trk _ _ _ (rdsL_app h4 h6) z hz
        rw [← e, np] at eo
        cases eo
      refine q _ _ (p :: (A' ++ B')) (rds_lst.mpr ⟨p, _, _, rfl, upd_same, RdsL.chg c _ _ _ (fun _ _ z => z) (rdsL_app h4 h6), rfl⟩) (fun nd => ?_) (fun z hz => ?_) (fun z t n e => ?_) c
      · have sb : (A' ++ B').Sublist (a :: A' ++ b :: B') := by
          refine List.Sublist.append (List.sublist_cons_self ..) (List.sublist_cons_self ..)
        exact List.nodup_cons.mpr ⟨fun hz => nt p hz rfl, sb.nodup nd⟩
      · rcases List.mem_cons.mp hz with rfl | hz
        · exact .inr np
        · refine .inl ?_
          rcases List.mem_append.mp hz with hz | hz
          · exact List.mem_append_left _ (List.mem_cons_of_mem _ hz)
          · exact List.mem_append_right _ (List.mem_cons_of_mem _ hz)
      · cases e
        exact np
    · cases e
  · split at e
    · rename_i x0 y0 hl
      replace hl := sl_iff.mp hl
      cases e
      obtain ⟨x, y, A, B, rfl, rfl, h1, h2⟩ := rdsL2 r
      exact ⟨x, y, rfl, .inr (.inr ⟨_, _, (rds_str.mp h1).1, (rds_str.mp h2).1, hl, q _ H [] (rds_str.mpr ⟨rfl, rfl⟩) (fun _ => List.nodup_nil) (fun a ha => by cases ha) (fun a t n => by cases n) (Chg.refl _ _)⟩)⟩
    · cases e
  · cases e
def pMul : List D → Option D
  | [.int i, .int j] => if sl (decide ((-(2 ^ 64) < i ∧ i < 2 ^ 64) ∨ (-(2 ^ 64) < j ∧ j < 2 ^ 64))) then some (.int (i * j)) else none
  | [.lst xs, .int k] => if sl (decide (D.atomL xs = true ∧ -(2 ^ 63) ≤ k ∧ k < 2 ^ 63 ∧ xs.length * k.toNat ≤ sizeLine)) then some (.lst (List.replicate k.toNat xs).flatten) else none
  | _ => none
theorem rdsL_rep {H : Hp} {ds : List D} {vs : List V} (h : RdsL G H ds vs []) : ∀ k : Nat, RdsL G H (List.replicate k ds).flatten (List.replicate k vs).flatten []
  | 0 => rdsL_nil.mpr ⟨rfl, rfl⟩
  | k + 1 => by
    rw [List.replicate_succ, List.flatten_cons, List.replicate_succ, List.flatten_cons]
    exact rdsL_app h (rdsL_rep h k)
theorem q_new {H : Hp} {Q : VK} {d : D} {ds : List D} {vs : List V} {p : Addr} (np : H p = none) (r : RdsL G H ds vs []) (q : ∀ v H' A, Rds G H' (.lst ds) v A → A.Nodup → (∀ a ∈ A, H a = none) → Chg No H H' → Q v H') : Q (.ref p) (upd H p (.lst vs)) := by
  have c : Chg No H (upd H p (.lst vs)) := Chg.new np
  refine q _ _ [p] (rds_lst.mpr ⟨p, vs, [], rfl, upd_same, RdsL.chg c ds vs [] (fun _ _ z => z) r, rfl⟩) (by simp) (fun a ha => ?_) c
  rw [List.mem_singleton.mp ha]
  exact np
abbrev rMulAll : R2 := fun x y H Q => (rI CMul fun i j => .int (i * j)) x y H Q ∨ rRep x y H Q
theorem op_mulAll : OpR X (binaryOp .Mult) rMulAll := op_mul.or op_rep
theorem prim_mul : PrimF G (r2 rMulAll) pMul := fun H vs ds F Q d tb r e q => by
  unfold pMul at e
  split at e
  · split at e
    · rename_i i j hc
      cases e
      obtain ⟨x, y, A, B, rfl, rfl, h1, h2⟩ := rdsL2 r
      exact ⟨x, y, rfl, .inl ⟨_, _, (rds_int.mp h1).1, (rds_int.mp h2).1, show (-(2 ^ 64) < i ∧ i < 2 ^ 64) ∨ (-(2 ^ 64) < j ∧ j < 2 ^ 64) from sl_iff.mp hc, q_atom (hInt _) q⟩⟩
    · cases e
  · split at e
    · rename_i xs k hc
      obtain ⟨c1, c2, c3, c4⟩ := sl_iff.mp hc
      cases e
      obtain ⟨x, y, A, B, rfl, rfl, h1, h2⟩ := rdsL2 r
      obtain ⟨a, us, A', rfl, h3, h4, rfl⟩ := rds_lst.mp h1
      have eA := RdsL.atom xs us A' c1 h4
      subst eA
      refine ⟨_, _, rfl, .inr ⟨a, k, us, rfl, (rds_int.mp h2).1, h3, c2, c3, by rw [rdsL_len h4]; exact c4, fun p np => ?_⟩⟩
      exact q_new (d := .non) np (rdsL_rep h4 k.toNat) q
    · cases e
  · cases e
def pEqv (neg : Bool) : List D → Option D
  | [.int i, .int j] => some (.bl (if neg then !decide (i = j) else decide (i = j)))
  | [x, y] => match x.py, y.py with
    | some p, some q => if SeqAt.shaped p && SeqAt.shaped q then some (.bl (if neg then !PyData.eqv p q else PyData.eqv p q)) else none
    | _, _ => none
  | _ => none
theorem pEqv_gen {neg : Bool} {ds : List D} {d : D} (h : pEqv neg ds = some d) : ∃ x y p q, ds = [x, y] ∧ x.py = some p ∧ y.py = some q ∧ SeqAt.shaped p = true ∧ SeqAt.shaped q = true ∧ d = .bl (if neg then !PyData.eqv p q else PyData.eqv p q) := by
  unfold pEqv at h
  split at h
  · rename_i i j
    cases h
    refine ⟨_, _, _, _, rfl, by rw [D.py], by rw [D.py], rfl, rfl, ?_⟩
    have e : PyData.eqv (.int i) (.int j) = decide (i = j) := TA.eqv_int i j
    rw [e]
  · split at h
    · rename_i p q e1 e2
      split at h
      · rename_i hs
        rw [Bool.and_eq_true] at hs
        cases h
        exact ⟨_, _, p, q, rfl, e1, e2, hs.1, hs.2, rfl⟩
      · cases h
    · cases h
  · cases h
theorem prim_eq (hK : X.K = G.K) : PrimF G (r2 (rEqD X.K)) (pEqv false) := fun H vs ds F Q d tb r e q => by
  obtain ⟨x, y, p1, p2, rfl, e1, e2, s1, s2, rfl⟩ := pEqv_gen e
  obtain ⟨u, w, A, B, rfl, rfl, h1, h2⟩ := rdsL2 r
  rw [hK]
  exact ⟨u, w, rfl, p1, p2, Rds.dp _ _ _ _ e1 h1, Rds.dp _ _ _ _ e2 h2, s1, s2, q_atom (hBl _) q⟩
theorem prim_ne (hK : X.K = G.K) : PrimF G (r2 (rNeD X.K)) (pEqv true) := fun H vs ds F Q d tb r e q => by
  obtain ⟨x, y, p1, p2, rfl, e1, e2, s1, s2, rfl⟩ := pEqv_gen e
  obtain ⟨u, w, A, B, rfl, rfl, h1, h2⟩ := rdsL2 r
  rw [hK]
  exact ⟨u, w, rfl, p1, p2, Rds.dp _ _ _ _ e1 h1, Rds.dp _ _ _ _ e2 h2, s1, s2, q_atom (hBl _) q⟩
def D.isNon : D → Bool
  | .non => true
  | _ => false
def pIsN (neg : Bool) : List D → Option D
  | [.any, .non] => none
  | [x, .non] => some (.bl (if neg then !x.isNon else x.isNon))
  | _ => none
def D.items : D → Option (List D)
  | .lst ds => some ds
  | .tup ds => some ds
  | .scr ns => some (ns.map .int)
  | _ => none
def keyD : D → Option Key
  | .int i => some (.inl i)
  | .str s => some (.inr s)
  | _ => none
def atK : List Key → List D → Key → Option D
  | k' :: ks, d :: ds, k => if k' = k then some d else atK ks ds k
  | _, _, _ => none
theorem rdsL_atK {H : Hp} {k : Key} : ∀ {us : List (Key × V)} {ds : List D} {F : List Addr}, RdsL G H ds (us.map (·.2)) F → (∀ d, atK (us.map (·.1)) ds k = some d → ∃ v A, valV us k = some v ∧ Rds G H d v A ∧ A.Sublist F) ∧ (atK (us.map (·.1)) ds k = none → valV us k = none)
  | [], ds, F, h => by
    have e := rdsL_len h
    cases ds with
    | nil => exact ⟨fun d e => (by unfold atK at e; cases e), fun _ => rfl⟩
    | cons d ds => simp at e
  | (k', v) :: us, ds, F, h => by
    cases ds with
    | nil => exact absurd (rdsL_len h) (by simp)
    | cons d ds =>
      obtain ⟨x, r, A, B, e, rfl, h1, h2⟩ := rdsL_cons.mp h
      cases e
      have ih := rdsL_atK (k := k) h2
      simp only [List.map_cons, atK]
      by_cases hk : k' = k
      · rw [if_pos hk, valV_pos (p := (k', v)) hk]
        refine ⟨fun d' e => ?_, fun e => by cases e⟩
        cases e
        exact ⟨v, A, rfl, h1, List.sublist_append_left ..⟩
      · rw [if_neg hk, valV_neg (p := (k', v)) hk]
        refine ⟨fun d' e => ?_, ih.2⟩
        obtain ⟨v', A', e1, e2, e3⟩ := ih.1 d' e
        exact ⟨v', A', e1, e2, e3.trans (List.sublist_append_right ..)⟩
theorem rds_key {H : Hp} {d : D} {k : Key} {v : V} {F : List Addr} (e : keyD d = some k) (r : Rds G H d v F) : v = kV k := by
  cases d <;> unfold keyD at e <;> first | cases e | skip
  · exact (rds_int.mp r).1
  · exact (rds_str.mp r).1
def pIx : List D → Option D
  | [.lst ds, .int i] => atI ds i
  | [.tup ds, .int i] => atI ds i
  | [.scr ns, .int i] => (atI ns i).map .int
  | [.dct ks ds, k] => (keyD k).bind fun k => atK ks ds k
  | _ => none
abbrev rIxAll (K : PySem.W.Frag) : R2 := fun x y H Q => rIx K x y H Q ∨ ∃ a v, x = .ref a ∧ DGet H a y (some v) ∧ Q v H
theorem ix_all (x : XOk G X) : IxR X (rIxAll X.K) := ix_seq.or (ix_dict (by have := x.un; omega))
theorem atI_rds {H : Hp} {ds : List D} {vs : List V} {F : List Addr} {i : Int} {d : D} (r : RdsL G H ds vs F) (e : atI ds i = some d) : ∃ v A, atI vs i = some v ∧ Rds G H d v A ∧ A.Sublist F := by
  unfold atI at e ⊢
  rw [rdsL_len r]
  cases h : ixN ds.length i with
  | none => rw [h] at e; cases e
  | some j =>
    rw [h] at e
    obtain ⟨v, A, h1, h2, h3⟩ := rdsL_get r (show ds[j]? = some d from e)
    exact ⟨v, A, h1, h2, h3⟩
theorem atI_map {α β : Type} (f : α → β) (xs : List α) (i : Int) : atI (xs.map f) i = (atI xs i).map f := by
  unfold atI
  rw [List.length_map]
  cases ixN xs.length i with
  | none => rfl
  | some j => simp
theorem prim_ix (hK : X.K = G.K) : PrimE G (r2 (rIxAll X.K)) pIx := fun H d1 v1 F1 vs ds F Q d tb r1 r e q => by
  rw [hK]
  unfold pIx at e
  split at e
  · rename_i xs i heq
    cases heq
    obtain ⟨y, rfl, h2⟩ := rdsL1 r
    obtain ⟨a, us, A', rfl, h3, h4, rfl⟩ := rds_lst.mp r1
    obtain ⟨v, A, h5, h6, h7⟩ := atI_rds h4 e
    exact ⟨_, y, rfl, .inl (.inl ⟨a, us, i, v, rfl, (rds_int.mp h2).1, SqL.of h3, h5, q v H A h6 (h7.trans (List.sublist_cons_self ..)) (Chg.refl _ _)⟩)⟩
  · rename_i xs i heq
    cases heq
    obtain ⟨y, rfl, h2⟩ := rdsL1 r
    obtain ⟨a, us, rfl, h3, h4⟩ := rds_tup.mp r1
    obtain ⟨v, A, h5, h6, h7⟩ := atI_rds h4 e
    exact ⟨_, y, rfl, .inl (.inr (.inl ⟨a, us, i, v, rfl, (rds_int.mp h2).1, h3, h5, q v H A h6 h7 (Chg.refl _ _)⟩))⟩
  · rename_i ns i heq
    cases heq
    obtain ⟨y, rfl, h2⟩ := rdsL1 r
    obtain ⟨a, rfl, h3, rfl⟩ := rds_scr.mp r1
    cases h : atI ns i with
    | none => rw [h] at e; cases e
    | some n =>
      rw [h] at e
      cases e
      exact ⟨_, y, rfl, .inl (.inl ⟨a, _, i, .int n, rfl, (rds_int.mp h2).1, h3.sql, by rw [atI_map, h]; rfl, q _ H [] (hInt _ _ _) (List.Sublist.refl _) (Chg.refl _ _)⟩)⟩
  · rename_i ks xs k heq
    cases heq
    obtain ⟨y, rfl, h2⟩ := rdsL1 r
    obtain ⟨a, us, A', rfl, h3, ⟨rfl, hnd⟩, h4, rfl⟩ := rds_dct.mp r1
    cases hk : keyD k with
    | none => rw [hk] at e; cases e
    | some k' =>
      rw [hk] at e
      obtain ⟨v, A, h5, h6, h7⟩ := (rdsL_atK h4).1 d e
      have ey := rds_key hk h2
      subst ey
      refine ⟨_, _, rfl, .inr ⟨a, v, rfl, ?_, q v H A h6 (h7.trans (List.sublist_cons_self ..)) (Chg.refl _ _)⟩⟩
      rw [← h5]
      exact DGet.k h3
  · cases e
theorem ve_sub (x : XOk G X) {a b : Expr} {M M' : List Nat} {k k' : Kind} {f g : EF} {pos : Pos} (ha : VE G X a M k f) (hb : VE G X b M' k' g) (hs : PlainIx b := by intro _ _; rfl) (sf : k.safe M' = true := by rfl) : VE G X (.Subscript a b pos) (M ++ M') (kPart [k, k']) (ePrim pIx (lCons f (lCons g lNil))) :=
  ve_ix (ix_all x) (prim_ix x.K) ha hb hs sf
def cutD (xs : List D) (lo hi : Option Int) : List D := (xs.drop (HT.sIx xs.length 0 lo)).take (HT.sIx xs.length xs.length hi - HT.sIx xs.length 0 lo)
theorem rdsL_drop {H : Hp} : ∀ {ds : List D} {vs : List V} {F : List Addr} (n : Nat), RdsL G H ds vs F → ∃ A, RdsL G H (ds.drop n) (vs.drop n) A ∧ A.Sublist F
  | _, _, F, 0, h => ⟨F, h, List.Sublist.refl _⟩
  | [], _, F, n + 1, h => by
    obtain ⟨rfl, rfl⟩ := rdsL_nil.mp h
    exact ⟨[], h, List.Sublist.refl _⟩
  | d :: ds, _, F, n + 1, h => by
    obtain ⟨x, r, A, B, rfl, rfl, h1, h2⟩ := rdsL_cons.mp h
    obtain ⟨A', h3, h4⟩ := rdsL_drop n h2
    exact ⟨A', h3, h4.trans (List.sublist_append_right ..)⟩
theorem rdsL_take {H : Hp} : ∀ {ds : List D} {vs : List V} {F : List Addr} (n : Nat), RdsL G H ds vs F → ∃ A, RdsL G H (ds.take n) (vs.take n) A ∧ A.Sublist F
  | _, _, F, 0, h => ⟨[], rdsL_nil.mpr ⟨rfl, rfl⟩, List.nil_sublist _⟩
  | [], _, F, n + 1, h => by
    obtain ⟨rfl, rfl⟩ := rdsL_nil.mp h
    exact ⟨[], h, List.Sublist.refl _⟩
  | d :: ds, _, F, n + 1, h => by
    obtain ⟨x, r, A, B, rfl, rfl, h1, h2⟩ := rdsL_cons.mp h
    obtain ⟨A', h3, h4⟩ := rdsL_take n h2
    exact ⟨A ++ A', rdsL_cons.mpr ⟨x, _, A, A', rfl, rfl, h1, h3⟩, (List.Sublist.refl A).append h4⟩
theorem rdsL_cut {H : Hp} {ds : List D} {vs : List V} {F : List Addr} (lo hi : Option Int) (h : RdsL G H ds vs F) : ∃ A, RdsL G H (cutD ds lo hi) (cutV vs lo hi) A ∧ A.Sublist F := by
  unfold cutD cutV
  rw [rdsL_len h]
  obtain ⟨A, h1, h2⟩ := rdsL_drop (HT.sIx ds.length 0 lo) h
  obtain ⟨B, h3, h4⟩ := rdsL_take (HT.sIx ds.length ds.length hi - HT.sIx ds.length 0 lo) h1
  exact ⟨B, h3, h4.trans h2⟩
end
end
end VL
set_option maxHeartbeats 4000000
namespace VL
noncomputable section
open PySem PySem.Spec PyProof.Rows L2
open GxR (TabB Tabbed)
variable [LamT]
section
variable {G : Gb} {X : Cx}
abbrev OF := Env → Option (Option Int × Env)
def tVO (G : Gb) (M : List Nat) (f : OF) : TO := fun σ H Q => ∃ C E Fs, Rel G C H σ E Fs ∧ ∃ o E', f E = some (o, E') ∧ ∀ H' Fs', Rel G C H' σ E' Fs' → Stp M H H' E E' Fs Fs' → Q o H'
abbrev VO (G : Gb) (X : Cx) (e : Option Expr) (M : List Nat) (f : OF) : Prop := PO X e (tVO G M f)
theorem PO.imp {e : Option Expr} {t t' : TO} (h : PO X e t) (i : ∀ σ H Q, t' σ H Q → t σ H Q) : PO X e t' := ⟨fun pins s σ H Q I q => h.run pins s σ H Q I (i σ H Q q)⟩
def oNone : OF := fun E => some (none, E)
def oSome (f : EF) : OF := fun E => match f E with
  | some (.int i, E') => some (some i, E')
  | _ => none
theorem vo_none : VO G X none [] oNone := PO.imp po_none fun σ H Q ⟨C, E, Fs, R, o, E', e, q⟩ => by
  cases e
  exact q H Fs R Stp.refl
theorem vo_some {e : Expr} {M : List Nat} {k : Kind} {f : EF} (h : VE G X e M k f) : VO G X (some e) M (oSome f) := PO.imp (po_some h) fun σ H Q ⟨C, E, Fs, R, o, E', e, q⟩ => by
  unfold oSome at e
  split at e
  · rename_i i E1 e1
    cases e
    exact ⟨C, E, Fs, R, _, _, e1, fun v H' Fs' F R' s' r' _ => ⟨i, (rds_int.mp r').1, q H' Fs' R' s'⟩⟩
  · cases e
def pSlice (lo hi : Option Int) : List D → Option D
  | [.lst ds] => some (.lst (cutD ds lo hi))
  | [.scr ns] => some (.lst (cutD (ns.map .int) lo hi))
  | [.tup ds] => if HT.sIx ds.length 0 lo = 0 ∧ HT.sIx ds.length ds.length hi = ds.length then none else some (.tup (cutD ds lo hi))
  | _ => none
abbrev rSlAll (K : PySem.W.Frag) : V → Option Int → Option Int → Hp → VK → Prop := fun x lo hi H Q => rSlL K x lo hi H Q ∨ rSlT K x lo hi H Q
theorem sl_all : SlR X (rSlAll X.K) := sl_list.or sl_tup
theorem prim_slice (hK : X.K = G.K) (lo hi : Option Int) : PrimV G (fun vs H Q => ∃ x, vs = [x] ∧ rSlAll X.K x lo hi H Q) (pSlice lo hi) := fun H vs ds F Q d tb r e q => by
  rw [hK]
  unfold pSlice at e
  split at e
  · rename_i xs
    cases e
    obtain ⟨x, rfl, h1⟩ := rdsL1 r
    obtain ⟨a, us, A, rfl, h3, h4, rfl⟩ := rds_lst.mp h1
    refine ⟨_, rfl, .inl ⟨a, us, rfl, SqL.of h3, fun p np => ?_⟩⟩
    obtain ⟨B, h5, h6⟩ := rdsL_cut lo hi h4
    have c : Chg No H (upd H p (.lst (cutV us lo hi))) := Chg.new np
    refine q _ _ (p :: B) (rds_lst.mpr ⟨p, _, _, rfl, upd_same, RdsL.chg c _ _ _ (fun _ _ z => z) h5, rfl⟩) (fun nd => ?_) (fun z hz => ?_) (fun z t n e => ?_) c
    · refine List.nodup_cons.mpr ⟨fun hz => ?_, (h6.trans (List.sublist_cons_self ..)).nodup nd⟩
      obtain ⟨o, eo, _⟩ := RdsL.trk _ _ _ h5 p hz
      rw [np] at eo
      cases eo
    · rcases List.mem_cons.mp hz with rfl | hz
      · exact .inr np
      · exact .inl (List.mem_cons_of_mem _ (h6.subset hz))
    · cases e
      exact np
  · rename_i ns
    cases e
    obtain ⟨x, rfl, h1⟩ := rdsL1 r
    obtain ⟨a, rfl, h3, rfl⟩ := rds_scr.mp h1
    refine ⟨_, rfl, .inl ⟨a, _, rfl, h3.sql, fun p np => ?_⟩⟩
    obtain ⟨B, h5, h6⟩ := rdsL_cut lo hi (rdsL_mk_ints (G := G) (H := H) ns)
    have eB : B = [] := List.sublist_nil.mp h6
    subst eB
    have c : Chg No H (upd H p (.lst (cutV (ns.map V.int) lo hi))) := Chg.new np
    refine q _ _ [p] (rds_lst.mpr ⟨p, _, _, rfl, upd_same, RdsL.chg c _ _ _ (fun _ _ z => z) h5, rfl⟩) (fun nd => by simp) (fun z hz => ?_) (fun z t n e => ?_) c
    · rw [List.mem_singleton.mp hz]
      exact .inr np
    · cases e
      exact np
  · split at e
    · cases e
    · rename_i xs hw
      cases e
      obtain ⟨x, rfl, h1⟩ := rdsL1 r
      obtain ⟨a, us, rfl, h3, h4⟩ := rds_tup.mp h1
      refine ⟨_, rfl, .inr ⟨a, us, rfl, h3, by rw [rdsL_len h4]; exact hw, fun p np => ?_⟩⟩
      obtain ⟨B, h5, h6⟩ := rdsL_cut lo hi h4
      have c : Chg No H (upd H p (.tup (cutV us lo hi))) := Chg.new np
      exact q _ _ B (rds_tup.mpr ⟨p, _, rfl, SqT.of upd_same, RdsL.chg c _ _ _ (fun _ _ z => z) h5⟩) (fun nd => h6.nodup nd) (fun z hz => .inl (h6.subset hz)) (fun z t n => by cases n) c
  · cases e
def eSlice (f : EF) (lo hi : OF) : EF := fun E => match f E with
  | some (d, E1) => (match lo E1 with
    | some (l, E2) => (match hi E2 with
      | some (u, E3) => (match pSlice l u [d] with
        | some r => some (r, E3)
        | none => none)
      | none => none)
    | none => none)
  | none => none
end
end
end VL
set_option maxHeartbeats 4000000
namespace VL
noncomputable section
open PySem PySem.Spec PyProof.Rows L2
open GxR (TabB Tabbed)
variable [LamT]
section
variable {G : Gb} {X : Cx}
def intsD : List D → Option (List Int)
  | [] => some []
  | .int i :: ds => (intsD ds).map (i :: ·)
  | _ => none
theorem intsD_of : ∀ {ds : List D} {ns : List Int}, intsD ds = some ns → ds = ns.map .int
  | [], ns, e => by
    unfold intsD at e
    cases e
    rfl
  | d :: ds, ns, e => by
    unfold intsD at e
    split at e
    · rename_i heq; cases heq
    · rename_i i ds' heq
      cases heq
      cases h : intsD ds with
      | none => rw [h] at e; cases e
      | some ms =>
        rw [h] at e
        cases e
        rw [intsD_of h]
        rfl
    · cases e
theorem hStr (i : Str) : ∀ G H, Rds G H (.str i) (.str i) [] := fun _ _ => rds_str.mpr ⟨rfl, rfl⟩
def pLen : List D → Option D
  | [.lst ds] => some (.int ds.length)
  | [.tup ds] => some (.int ds.length)
  | [.scr ns] => some (.int ns.length)
  | [.dct ks _] => some (.int ks.length)
  | [.str s] => if sl (decide (s.length ≤ sizeLine)) then some (.int s.length) else none
  | _ => none
abbrev rLenAll (K : PySem.W.Frag) : List V → Hp → VK → Prop := fun xs H Q => (∃ x n, xs = [x] ∧ LenV K x H n ∧ Q (.int n) H) ∨ ∃ d kvs, xs = [.ref d] ∧ H d = some (.dK kvs) ∧ Q (.int kvs.length) H
theorem prim_len (hK : X.K = G.K) : PrimF G (rLenAll X.K) pLen := fun H vs ds F Q d tb r e q => by
  rw [hK]
  unfold pLen at e
  split at e
  · cases e
    obtain ⟨x, rfl, h1⟩ := rdsL1 r
    obtain ⟨a, us, A, rfl, h3, h4, rfl⟩ := rds_lst.mp h1
    exact .inl ⟨_, _, rfl, .inl ⟨us, SqL.of h3, (rdsL_len h4).symm⟩, q_atom (hInt _) q⟩
  · cases e
    obtain ⟨x, rfl, h1⟩ := rdsL1 r
    obtain ⟨a, us, rfl, h3, h4⟩ := rds_tup.mp h1
    exact .inl ⟨_, _, rfl, .inr ⟨us, h3, (rdsL_len h4).symm⟩, q_atom (hInt _) q⟩
  · cases e
    obtain ⟨x, rfl, h1⟩ := rdsL1 r
    obtain ⟨a, rfl, h3, rfl⟩ := rds_scr.mp h1
    exact .inl ⟨_, _, rfl, .inl ⟨_, h3.sql, (List.length_map ..).symm⟩, q_atom (hInt _) q⟩
  · cases e
    obtain ⟨x, rfl, h1⟩ := rdsL1 r
    obtain ⟨a, us, A, rfl, h3, ⟨rfl, hnd⟩, h4, rfl⟩ := rds_dct.mp h1
    refine .inr ⟨a, us, rfl, h3, ?_⟩
    rw [List.length_map] at q
    exact q_atom (hInt _) q
  · split at e
    · rename_i s hl
      replace hl := sl_iff.mp hl
      cases e
      obtain ⟨x, rfl, h1⟩ := rdsL1 r
      obtain ⟨rfl, rfl⟩ := rds_str.mp h1
      exact .inl ⟨_, _, rfl, ⟨hl, rfl⟩, q_atom (hInt _) q⟩
    · cases e
  · cases e
theorem call_lenAll : CallR X (.builtin "len") (rLenAll X.K) := call_len.or call_lenD
def pAbs : List D → Option D
  | [.int i] => some (.int (if i < 0 then -i else i))
  | _ => none
theorem prim_abs : PrimF G (fun xs H Q => ∃ i, xs = [.int i] ∧ Q (.int (if i < 0 then -i else i)) H) pAbs := fun H vs ds F Q d tb r e q => by
  unfold pAbs at e
  split at e
  · cases e
    obtain ⟨x, rfl, h1⟩ := rdsL1 r
    obtain ⟨rfl, rfl⟩ := rds_int.mp h1
    exact ⟨_, rfl, q_atom (hInt _) q⟩
  · cases e
def pMin : List D → Option D
  | [.int i, .int j] => some (.int (if j < i then j else i))
  | [.lst ds] => match intsD ds with
    | some (n :: ns) => some (.int (ns.foldl min n))
    | _ => none
  | [.tup ds] => match intsD ds with
    | some (n :: ns) => some (.int (ns.foldl min n))
    | _ => none
  | _ => none
def pMax : List D → Option D
  | [.int i, .int j] => some (.int (if j > i then j else i))
  | [.lst ds] => match intsD ds with
    | some (n :: ns) => some (.int (ns.foldl max n))
    | _ => none
  | [.tup ds] => match intsD ds with
    | some (n :: ns) => some (.int (ns.foldl max n))
    | _ => none
  | _ => none
theorem foldl_min_le : ∀ (ns : List Int) (n : Int), ns.foldl min n ≤ n ∧ ∀ y ∈ ns, ns.foldl min n ≤ y
  | [], n => ⟨Int.le_refl _, fun y hy => by cases hy⟩
  | m :: ns, n => by
    obtain ⟨h1, h2⟩ := foldl_min_le ns (min n m)
    refine ⟨by rw [List.foldl_cons]; omega, fun y hy => ?_⟩
    rw [List.foldl_cons]
    rcases List.mem_cons.mp hy with rfl | hy
    · omega
    · exact h2 y hy
theorem foldl_max_ge : ∀ (ns : List Int) (n : Int), n ≤ ns.foldl max n ∧ ∀ y ∈ ns, y ≤ ns.foldl max n
  | [], n => ⟨Int.le_refl _, fun y hy => by cases hy⟩
  | m :: ns, n => by
    obtain ⟨h1, h2⟩ := foldl_max_ge ns (max n m)
    refine ⟨by rw [List.foldl_cons]; omega, fun y hy => ?_⟩
    rw [List.foldl_cons]
    rcases List.mem_cons.mp hy with rfl | hy
    · omega
    · exact h2 y hy
theorem foldl_min_mem : ∀ (ns : List Int) (n : Int), ns.foldl min n ∈ n :: ns
  | [], n => List.mem_cons_self
  | m :: ns, n => by
    have h := foldl_min_mem ns (min n m)
    rw [List.foldl_cons]
    rcases List.mem_cons.mp h with h | h
    · rw [h]
      rcases Int.le_total n m with z | z
      · rw [Int.min_eq_left z]
        exact List.mem_cons_self
      · rw [Int.min_eq_right z]
        exact List.mem_cons_of_mem _ List.mem_cons_self
    · exact List.mem_cons_of_mem _ (List.mem_cons_of_mem _ h)
theorem foldl_max_mem : ∀ (ns : List Int) (n : Int), ns.foldl max n ∈ n :: ns
  | [], n => List.mem_cons_self
  | m :: ns, n => by
    have h := foldl_max_mem ns (max n m)
    rw [List.foldl_cons]
    rcases List.mem_cons.mp h with h | h
    · rw [h]
      rcases Int.le_total n m with z | z
      · rw [Int.max_eq_right z]
        exact List.mem_cons_of_mem _ List.mem_cons_self
      · rw [Int.max_eq_left z]
        exact List.mem_cons_self
    · exact List.mem_cons_of_mem _ (List.mem_cons_of_mem _ h)
abbrev rMinAll (K : PySem.W.Frag) : List V → Hp → VK → Prop := fun xs H Q => (∃ i j, xs = [.int i, .int j] ∧ Q (.int (if j < i then j else i)) H) ∨ (rMin K xs H Q ∨ TA.rMinT K xs H Q)
abbrev rMaxAll (K : PySem.W.Frag) : List V → Hp → VK → Prop := fun xs H Q => (∃ i j, xs = [.int i, .int j] ∧ Q (.int (if j > i then j else i)) H) ∨ (rMax K xs H Q ∨ TA.rMaxT K xs H Q)
theorem call_minAll (x : XOk G X) : CallR X (.builtin "min") (rMinAll X.K) := (call_min2 x.calm).or ((cr_min x.calm).or (TA.call_minT x.calm (by have := x.un; omega)))
theorem call_maxAll (x : XOk G X) : CallR X (.builtin "max") (rMaxAll X.K) := (call_max2 x.calm).or ((cr_max x.calm).or (TA.call_maxT x.calm (by have := x.un; omega)))
theorem prim_min (hK : X.K = G.K) : PrimF G (rMinAll X.K) pMin := fun H vs ds F Q d tb r e q => by
  rw [hK]
  unfold pMin at e
  split at e
  · cases e
    obtain ⟨x, y, A, B, rfl, rfl, h1, h2⟩ := rdsL2 r
    obtain ⟨rfl, rfl⟩ := rds_int.mp h1
    obtain ⟨rfl, rfl⟩ := rds_int.mp h2
    exact .inl ⟨_, _, rfl, q_atom (hInt _) q⟩
  · split at e
    · rename_i n ns e1
      cases e
      obtain ⟨x, rfl, h1⟩ := rdsL1 r
      obtain ⟨a, us, A, rfl, h3, h4, rfl⟩ := rds_lst.mp h1
      rw [intsD_of e1] at h4
      obtain ⟨rfl, rfl⟩ := rdsL_ints h4
      refine .inr (.inl ⟨a, n :: ns, rfl, SqL.of h3, by simp, fun m hm hy => ?_⟩)
      have e2 : m = ns.foldl min n := by
        have h5 := hy _ (foldl_min_mem ns n)
        have h6 := foldl_min_le ns n
        rcases List.mem_cons.mp hm with z | z
        · have := h6.1; omega
        · have := h6.2 m z; omega
      rw [e2]
      exact q_atom (hInt _) q
    · cases e
  · split at e
    · rename_i n ns e1
      cases e
      obtain ⟨x, rfl, h1⟩ := rdsL1 r
      obtain ⟨a, us, rfl, h3, h4⟩ := rds_tup.mp h1
      rw [intsD_of e1] at h4
      obtain ⟨rfl, rfl⟩ := rdsL_ints h4
      exact .inr (.inr ⟨a, n, ns, rfl, h3, q_atom (hInt _) q⟩)
    · cases e
  · cases e
theorem prim_max (hK : X.K = G.K) : PrimF G (rMaxAll X.K) pMax := fun H vs ds F Q d tb r e q => by
  rw [hK]
  unfold pMax at e
  split at e
  · cases e
    obtain ⟨x, y, A, B, rfl, rfl, h1, h2⟩ := rdsL2 r
    obtain ⟨rfl, rfl⟩ := rds_int.mp h1
    obtain ⟨rfl, rfl⟩ := rds_int.mp h2
    exact .inl ⟨_, _, rfl, q_atom (hInt _) q⟩
  · split at e
    · rename_i n ns e1
      cases e
      obtain ⟨x, rfl, h1⟩ := rdsL1 r
      obtain ⟨a, us, A, rfl, h3, h4, rfl⟩ := rds_lst.mp h1
      rw [intsD_of e1] at h4
      obtain ⟨rfl, rfl⟩ := rdsL_ints h4
      refine .inr (.inl ⟨a, n :: ns, rfl, SqL.of h3, by simp, fun m hm hy => ?_⟩)
      have e2 : m = ns.foldl max n := by
        have h5 := hy _ (foldl_max_mem ns n)
        have h6 := foldl_max_ge ns n
        rcases List.mem_cons.mp hm with z | z
        · have := h6.1; omega
        · have := h6.2 m z; omega
      rw [e2]
      exact q_atom (hInt _) q
    · cases e
  · split at e
    · rename_i n ns e1
      cases e
      obtain ⟨x, rfl, h1⟩ := rdsL1 r
      obtain ⟨a, us, rfl, h3, h4⟩ := rds_tup.mp h1
      rw [intsD_of e1] at h4
      obtain ⟨rfl, rfl⟩ := rdsL_ints h4
      exact .inr (.inr ⟨a, n, ns, rfl, h3, q_atom (hInt _) q⟩)
    · cases e
  · cases e
def pDivmod : List D → Option D
  | [.int i, .int j] => if sl (decide (0 < j ∧ j < 1073741824)) then some (.tup [.int (i / j), .int (i % j)]) else none
  | _ => none
theorem prim_divmod : PrimF G (fun xs H Q => ∃ i j, xs = [.int i, .int j] ∧ CDiv i j ∧ ∀ p, H p = none → Q (.ref p) (upd H p (.tup [.int (i / j), .int (i % j)]))) pDivmod := fun H vs ds F Q d tb r e q => by
  unfold pDivmod at e
  split at e
  · split at e
    · rename_i i j hc
      cases e
      obtain ⟨x, y, A, B, rfl, rfl, h1, h2⟩ := rdsL2 r
      obtain ⟨rfl, rfl⟩ := rds_int.mp h1
      obtain ⟨rfl, rfl⟩ := rds_int.mp h2
      refine ⟨i, j, rfl, show 0 < j ∧ j < 1073741824 from sl_iff.mp hc, fun p np => ?_⟩
      exact q _ _ [] (rds_tup.mpr ⟨p, _, rfl, SqT.of upd_same, rdsL_mk_ints [i / j, i % j]⟩) List.nodup_nil (fun a ha => by cases ha) (Chg.new np)
    · cases e
  · cases e
def pInt : List D → Option D
  | [.int i] => some (.int i)
  | [.bl b] => some (.int (if b then 1 else 0))
  | _ => none
theorem prim_int : PrimV G (fun xs H Q => (∃ i, xs = [.int i] ∧ Q (.int i) H) ∨ ∃ k, xs = [.bl k] ∧ Q (.int (if k then 1 else 0)) H) pInt := PrimF.v fun H vs ds F Q d tb r e q => by
  unfold pInt at e
  split at e
  · cases e
    obtain ⟨x, rfl, h1⟩ := rdsL1 r
    obtain ⟨rfl, rfl⟩ := rds_int.mp h1
    exact .inl ⟨_, rfl, q_atom (hInt _) q⟩
  · cases e
    obtain ⟨x, rfl, h1⟩ := rdsL1 r
    obtain ⟨rfl, rfl⟩ := rds_bl.mp h1
    exact .inr ⟨_, rfl, q_atom (hInt _) q⟩
  · cases e
def pList : List D → Option D
  | [d] => d.items.map .lst
  | _ => none
def pTuple : List D → Option D
  | [d] => d.items.map .tup
  | _ => none
theorem rds_items {H : Hp} {d : D} {ds : List D} {v : V} {F : List Addr} (e : d.items = some ds) (r : Rds G H d v F) : ∃ a us A, v = .ref a ∧ RdsL G H ds us A ∧ A.Sublist F ∧ ((SqL G.K H a us ∧ ∀ ds, d ≠ .tup ds) ∨ (SqT G.K H a us ∧ A = F)) := by
  cases d <;> unfold D.items at e <;> first | cases e | skip
  · obtain ⟨a, us, rfl, h3, h4⟩ := rds_tup.mp r
    exact ⟨a, us, F, rfl, h4, List.Sublist.refl _, .inr ⟨h3, rfl⟩⟩
  · obtain ⟨a, us, A, rfl, h3, h4, rfl⟩ := rds_lst.mp r
    exact ⟨a, us, A, rfl, h4, List.sublist_cons_self .., .inl ⟨SqL.of h3, fun _ z => by cases z⟩⟩
  · obtain ⟨a, rfl, h3, rfl⟩ := rds_scr.mp r
    exact ⟨a, _, [], rfl, rdsL_mk_ints _, List.Sublist.refl _, .inl ⟨h3.sql, fun _ z => by cases z⟩⟩
theorem prim_tuple (hK : X.K = G.K) : PrimV G (fun xs H Q => ∃ p ys, xs = [.ref p] ∧ ((SqL X.K H p ys ∧ ∀ l, H l = none → Q (.ref l) (upd H l (.tup ys))) ∨ (SqT X.K H p ys ∧ Q (.ref p) H))) pTuple := fun H vs ds F Q d tb r e q => by
  rw [hK]
  unfold pTuple at e
  split at e
  · rename_i d0
    cases e0 : d0.items with
    | none => rw [e0] at e; cases e
    | some its =>
      rw [e0] at e
      cases e
      obtain ⟨x, rfl, h1⟩ := rdsL1 r
      obtain ⟨a, us, A, rfl, h2, h3, h4⟩ := rds_items e0 h1
      rcases h4 with ⟨h4, _⟩ | ⟨h4, rfl⟩
      · refine ⟨a, us, rfl, .inl ⟨h4, fun p np => ?_⟩⟩
        have c : Chg No H (upd H p (.tup us)) := Chg.new np
        exact q _ _ A (rds_tup.mpr ⟨p, _, rfl, SqT.of upd_same, RdsL.chg c _ _ _ (fun _ _ z => z) h2⟩) (fun nd => h3.nodup nd) (fun z hz => .inl (h3.subset hz)) (fun z t n => by cases n) c
      · exact ⟨a, us, rfl, .inr ⟨h4, q _ H A (rds_tup.mpr ⟨a, _, rfl, h4, h2⟩) id (fun z hz => .inl hz) (fun z t n => by cases n) (Chg.refl _ _)⟩⟩
  · cases e
def blsD : List D → Option (List Bool)
  | [] => some []
  | .bl i :: ds => (blsD ds).map (i :: ·)
  | _ => none
def pAll : List D → Option D
  | [.lst ds] => (blsD ds).map fun bs => .bl (bs.all id)
  | _ => none
def pAny : List D → Option D
  | [.lst ds] => (blsD ds).map fun bs => .bl (bs.any id)
  | _ => none
def pRepr : List D → Option D
  | [d] => match d.py with
    | some p => if sl (isDisplay p && p.showable && !p.hasDict && decide (p.depth ≤ 30) && decide (p.shown.length ≤ sizeLine)) then some (.str p.shown) else none
    | none => none
  | _ => none
theorem prim_repr (hK : X.K = G.K) : PrimF G (fun xs H Q => ∃ x d, xs = [x] ∧ Dp X.K H x d ∧ TA.Shows d ∧ Q (.str d.shown) H) pRepr := fun H vs ds F Q d tb r e q => by
  rw [hK]
  unfold pRepr at e
  split at e
  · split at e
    · rename_i p e1
      split at e
      · rename_i hc
        rw [sl_eq] at hc
        simp only [Bool.and_eq_true, Bool.not_eq_true', decide_eq_true_eq] at hc
        obtain ⟨⟨⟨⟨c1, c2⟩, c3⟩, c4⟩, c5⟩ := hc
        cases e
        obtain ⟨x, rfl, h1⟩ := rdsL1 r
        exact ⟨x, p, rfl, Rds.dp _ _ _ _ e1 h1, ⟨c1, c2, c3, c4, c5⟩, q_atom (hStr _) q⟩
      · cases e
    · cases e
  · cases e
end
end
end VL
set_option maxHeartbeats 4000000
namespace VL
noncomputable section
open PySem PySem.Spec PyProof.Rows L2
open GxR (TabB Tabbed)
variable [LamT]
section
variable {G : Gb} {X : Cx}
def flatD : D → Option V
  | .non => some .non
  | .bl b => some (.bl b)
  | .int i => some (.int i)
  | .str s => some (.str s)
  | _ => none
def flatsD : List D → Option (List V)
  | [] => some []
  | d :: ds => match flatD d, flatsD ds with
    | some v, some vs => some (v :: vs)
    | _, _ => none
theorem flatD_of {H : Hp} {d : D} {x v : V} {F : List Addr} (e : flatD d = some x) (r : Rds G H d v F) : v = x ∧ flatV x = true ∧ F = [] := by
  cases d <;> unfold flatD at e <;> cases e
  · exact ⟨(rds_non.mp r).1, rfl, (rds_non.mp r).2⟩
  · exact ⟨(rds_bl.mp r).1, rfl, (rds_bl.mp r).2⟩
  · exact ⟨(rds_int.mp r).1, rfl, (rds_int.mp r).2⟩
  · exact ⟨(rds_str.mp r).1, rfl, (rds_str.mp r).2⟩
theorem flatsD_of {H : Hp} : ∀ {ds : List D} {xs vs : List V} {F : List Addr}, flatsD ds = some xs → RdsL G H ds vs F → vs = xs ∧ xs.all flatV = true ∧ F = []
  | [], xs, vs, F, e, r => by
    unfold flatsD at e
    cases e
    exact ⟨(rdsL_nil.mp r).1, rfl, (rdsL_nil.mp r).2⟩
  | d :: ds, xs, vs, F, e, r => by
    obtain ⟨x, r', A, B, rfl, rfl, h1, h2⟩ := rdsL_cons.mp r
    unfold flatsD at e
    split at e
    · rename_i v vs' e1 e2
      cases e
      obtain ⟨rfl, f1, rfl⟩ := flatD_of e1 h1
      obtain ⟨rfl, f2, rfl⟩ := flatsD_of e2 h2
      exact ⟨rfl, by rw [List.all_cons, f1, f2]; rfl, rfl⟩
    · cases e
def D.has (x y : D) : Option Bool := match y with
  | .dct ks ds => (keyD x).map fun k => (atK ks ds k).isSome
  | .lst ds => match flatD x, flatsD ds with
    | some v, some vs => some (inV v vs)
    | _, _ => match x.py, (D.lst ds).py with
      | some p, some (.list ps) => if SeqAt.shaped p && SeqAt.shaped (.list ps) then some (ps.any fun z => PyData.eqv z p) else none
      | _, _ => none
  | .tup ds => match flatD x, flatsD ds with
    | some v, some vs => some (inV v vs)
    | _, _ => none
  | _ => none
def pIn (neg : Bool) : List D → Option D
  | [x, y] => (x.has y).map fun b => .bl (if neg then !b else b)
  | _ => none
def D.tru : D → Option Bool
  | .non => some false
  | .bl b => some b
  | .int i => some (i != 0)
  | .lst ds => some (!ds.isEmpty)
  | .tup ds => some (!ds.isEmpty)
  | .dct ks _ => some (!ks.isEmpty)
  | .scr ns => some (!ns.isEmpty)
  | _ => none
def toTr (f : EF) : TF := fun E => match f E with
  | some (d, E') => (match d.tru with
    | some b => some (b, E')
    | none => none)
  | none => none
theorem isEmpty_len {α β : Type} {xs : List α} {ys : List β} (h : xs.length = ys.length) : xs.isEmpty = ys.isEmpty := by
  cases xs <;> cases ys <;> simp_all
theorem tru_of {H : Hp} {d : D} {b : Bool} {v : V} {F : List Addr} (e : d.tru = some b) (r : Rds G H d v F) : TruV G.K v H b := by
  cases d <;> unfold D.tru at e <;> cases e
  · rw [(rds_non.mp r).1]; rfl
  · rw [(rds_bl.mp r).1]; rfl
  · rw [(rds_int.mp r).1]; rfl
  · obtain ⟨a, us, rfl, h3, h4⟩ := rds_tup.mp r
    exact .inr (.inl ⟨us, h3, by rw [isEmpty_len (rdsL_len h4)]⟩)
  · obtain ⟨a, us, A', rfl, h3, h4, rfl⟩ := rds_lst.mp r
    exact .inl ⟨us, SqL.of h3, by rw [isEmpty_len (rdsL_len h4)]⟩
  · obtain ⟨a, us, A', rfl, h3, ⟨rfl, hnd⟩, h4, rfl⟩ := rds_dct.mp r
    exact .inr (.inr ⟨us, h3, by rw [List.isEmpty_map]⟩)
  · obtain ⟨a, rfl, h3, rfl⟩ := rds_scr.mp r
    exact .inl ⟨_, h3.sql, by rw [List.isEmpty_map]⟩
theorem vt_truth (x : XOk G X) {e : Expr} {M : List Nat} {k : Kind} {f : EF} (he : VE G X e M k f) (hi : ∀ whole, isTrue e X.env whole = (do let v ← whole; standAt e.pos; holding [v] (truthy v)) := by intro _; rfl) : VT G X e M (toTr f) :=
  PT.imp (pt_truth he hi) fun σ H Q ⟨C, E, Fs, R, b, E', e, q⟩ => by
    unfold toTr at e
    split at e
    · rename_i d E1 e1
      split at e
      · rename_i b' e2
        cases e
        exact ⟨C, E, Fs, R, _, _, e1, fun v H' Fs' F R' s' r' _ => ⟨b, by rw [x.K]; exact tru_of e2 r', q H' Fs' R' s'⟩⟩
      · cases e
    · cases e
abbrev RF := Env → Option (Int × Int × Env)
theorem PRg.imp {e : Expr} {t t' : L2.St → Hp → (Int → Int → Hp → Prop) → Prop} (h : PRg X e t) (i : ∀ σ H Q, t' σ H Q → t σ H Q) : PRg X e t' := fun pins s σ H Q I q => h pins s σ H Q I (i σ H Q q)
def rg1 (f : EF) : RF := fun E => match f E with
  | some (.int n, E') => some (0, n, E')
  | _ => none
def rg2 (f g : EF) : RF := fun E => match lCons f (lCons g lNil) E with
  | some ([.int i, .int j], E') => some (i, j, E')
  | _ => none
variable {a b e : Expr} {M M' : List Nat} {k k' : Kind} {f g : EF}
def rgI (a b : Int) : List Int := (List.range (b - a).toNat).map fun (i : Nat) => a + (i : Int)
def rgOk (a b : Int) : Bool := sl (decide (-(2 ^ 62) ≤ a ∧ a < 2 ^ 62 ∧ -(2 ^ 62) ≤ b ∧ b < 2 ^ 62 ∧ (b - a).toNat ≤ 2 ^ 24))
def eListRg (r : RF) : EF := fun E => match r E with
  | some (a, b, E') => if rgOk a b then some (.lst ((rgI a b).map .int), E') else none
  | none => none
end
end
end VL
set_option maxHeartbeats 4000000
namespace VL
noncomputable section
open PySem PySem.Spec PyProof.Rows L2
open GxR (TabB Tabbed)
variable [LamT]
def Mode.frz : Mode → Mode
  | .own => .shr
  | .io => .arg
  | m => m
def frz1 (E : Env) (j : Nat) : Env := match E[j]? with
  | some (some (m, d)) => E.set j (some (m.frz, d))
  | _ => E
def freeze (E : Env) (S : List Nat) : Env := S.foldl frz1 E
def newAll (E : Env) (S : List Nat) : Bool := S.all fun j => match E[j]? with
  | some (some (m, _)) => m.new
  | _ => true
def D.flat : D → Bool
  | .lst ds => D.atomL ds
  | .dct _ ds => D.atomL ds
  | _ => false
def putV (E : Env) (i : Nat) (S : List Nat) (d : D) : Env := (freeze E S).set i (some (if newAll E S then .shr else .arg, d))
def putE (E : Env) (i : Nat) (k : Kind) (d : D) : Env :=
  if d.atom then E.set i (some (.own, d)) else match k with
    | .own => E.set i (some (.own, d))
    | .top S => if d.flat then E.set i (some (.own, d)) else putV E i S d
    | .sub j => putV E i [j] d
    | .vw S => putV E i S d
    | .ref j => putV E i [j] d
abbrev FsSet (Fs : Nat → List Addr) (i : Nat) (F : List Addr) : Nat → List Addr := fun j => if j = i then F else Fs j
section
variable {G : Gb} {C : Ctx} {H : Hp} {σ : L2.St} {E : Env} {Fs : Nat → List Addr} {i : Nat} {d : D} {v : V} {F : List Addr} {m : Mode}
theorem Rel.set (R : Rel G C H σ E Fs) (hi : i < E.length) (rd : Rds G H d v F) (hio : m ≠ .io) (c1 : m.w = true → F.Nodup ∧ ∀ a ∈ F, ¬ C.T a)
    (c2 : ∀ j m' d', j ≠ i → E[j]? = some (some (m', d')) → (m.w = true ∨ m'.w = true) → ∀ a ∈ F, a ∉ Fs j) (c3 : m.new = true → ∀ a ∈ F, C.H0 a = none) :
    Rel G C H (σ.set i (some v)) (E.set i (some (m, d))) (FsSet Fs i F) where
  len := by rw [List.length_set, List.length_set]; exact R.len
  rd := fun j m' d' e => by
    by_cases h : j = i
    · subst h
      rw [List.getElem?_set_self hi] at e
      cases e
      exact ⟨v, by rw [List.getElem?_set_self (by rw [← R.len]; exact hi)], by rw [FsSet, if_pos rfl]; exact rd, fun z => absurd z hio⟩
    · rw [List.getElem?_set_ne (Ne.symm h)] at e
      obtain ⟨w, h1, h2, h3⟩ := R.rd j m' d' e
      exact ⟨w, by rw [List.getElem?_set_ne (Ne.symm h)]; exact h1, by rw [FsSet, if_neg h]; exact h2, h3⟩
  nd := fun j m' d' e hw => by
    by_cases h : j = i
    · subst h
      rw [List.getElem?_set_self hi] at e
      cases e
      rw [FsSet, if_pos rfl]
      refine ⟨(c1 hw).1, (c1 hw).2, fun j' m2 d2 hj e2 a ha => ?_⟩
      rw [List.getElem?_set_ne (Ne.symm hj)] at e2
      rw [FsSet, if_neg hj]
      exact c2 j' m2 d2 hj e2 (.inl hw) a ha
    · rw [List.getElem?_set_ne (Ne.symm h)] at e
      obtain ⟨h1, h2, h3⟩ := R.nd j m' d' e hw
      rw [FsSet, if_neg h]
      refine ⟨h1, h2, fun j' m2 d2 hj e2 a ha => ?_⟩
      by_cases h' : j' = i
      · subst h'
        rw [FsSet, if_pos rfl]
        exact fun hm => c2 j m' d' h e (.inr hw) a hm ha
      · rw [List.getElem?_set_ne (Ne.symm h')] at e2
        rw [FsSet, if_neg h']
        exact h3 j' m2 d2 hj e2 a ha
  nw := fun j m' d' e => by
    by_cases h : j = i
    · subst h
      rw [List.getElem?_set_self hi] at e
      cases e
      rw [FsSet, if_pos rfl]
      exact ⟨c3, fun z => absurd z hio⟩
    · rw [List.getElem?_set_ne (Ne.symm h)] at e
      rw [FsSet, if_neg h]
      exact R.nw j m' d' e
  fr := R.fr
  pr := R.pr
  pt := R.pt
  tb := R.tb
theorem Rel.drop (R : Rel G C H σ E Fs) (i : Nat) : Rel G C H σ (E.set i none) Fs := by
  have h : ∀ {j m' d'}, (E.set i none)[j]? = some (some (m', d')) → E[j]? = some (some (m', d')) ∧ j ≠ i := fun {j m' d'} e => by
    by_cases h : j = i
    · subst h
      by_cases hj : j < E.length
      · rw [List.getElem?_set_self hj] at e
        cases e
      · rw [List.getElem?_eq_none (by rw [List.length_set]; omega)] at e
        cases e
    · rw [List.getElem?_set_ne (Ne.symm h)] at e
      exact ⟨e, h⟩
  exact ⟨by rw [List.length_set]; exact R.len, fun j m' d' e => R.rd j m' d' (h e).1, fun j m' d' e hw => let ⟨a, b, c⟩ := R.nd j m' d' (h e).1 hw; ⟨a, b, fun j' m2 d2 hj e2 => c j' m2 d2 hj (h e2).1⟩, fun j m' d' e => R.nw j m' d' (h e).1, R.fr, R.pr, R.pt, R.tb⟩
theorem Mode.frz_w (m : Mode) : m.frz.w = false := by cases m <;> rfl
theorem Mode.frz_new (m : Mode) : m.frz.new = m.new := by cases m <;> rfl
theorem Mode.frz_io (m : Mode) : m.frz ≠ .io := by cases m <;> decide
theorem frz1_get {j l : Nat} : (∀ m d, E[l]? = some (some (m, d)) → ∃ m', (frz1 E j)[l]? = some (some (m', d)) ∧ (m' = m ∨ m' = m.frz) ∧ (l = j → m' = m.frz)) ∧ (∀ m d, (frz1 E j)[l]? = some (some (m, d)) → ∃ m0, E[l]? = some (some (m0, d)) ∧ (m = m0 ∨ m = m0.frz) ∧ (l = j → m = m0.frz)) := by
  unfold frz1
  split
  · rename_i m0 d0 e0
    have hj : j < E.length := (List.getElem?_eq_some_iff.mp e0).1
    by_cases h : l = j
    · subst h
      rw [List.getElem?_set_self hj, e0]
      exact ⟨fun m d e => by cases e; exact ⟨_, rfl, .inr rfl, fun _ => rfl⟩, fun m d e => by cases e; exact ⟨_, rfl, .inr rfl, fun _ => rfl⟩⟩
    · rw [List.getElem?_set_ne (Ne.symm h)]
      exact ⟨fun m d e => ⟨m, e, .inl rfl, fun z => absurd z h⟩, fun m d e => ⟨m, e, .inl rfl, fun z => absurd z h⟩⟩
  · rename_i hn
    exact ⟨fun m d e => ⟨m, e, .inl rfl, fun z => by subst z; exact absurd e (hn m d)⟩, fun m d e => ⟨m, e, .inl rfl, fun z => by subst z; exact absurd e (hn m d)⟩⟩
theorem frz1_len {j : Nat} : (frz1 E j).length = E.length := by
  unfold frz1
  split
  · rw [List.length_set]
  · rfl
theorem Rel.frz1 {j : Nat} (R : Rel G C H σ E Fs) : Rel G C H σ (frz1 E j) Fs where
  len := by rw [frz1_len]; exact R.len
  rd := fun l m d e => by
    obtain ⟨m0, e0, h1, h2⟩ := frz1_get.2 m d e
    obtain ⟨w, z1, z2, z3⟩ := R.rd l m0 d e0
    refine ⟨w, z1, z2, fun z => ?_⟩
    rcases h1 with rfl | rfl
    · exact z3 z
    · exact absurd z (Mode.frz_io m0)
  nd := fun l m d e hw => by
    obtain ⟨m0, e0, h1, h2⟩ := frz1_get.2 m d e
    rcases h1 with rfl | rfl
    · obtain ⟨z1, z2, z3⟩ := R.nd l _ d e0 hw
      exact ⟨z1, z2, fun l' m' d' hl e' => let ⟨m1, e1, _⟩ := frz1_get.2 m' d' e'; z3 l' m1 d' hl e1⟩
    · rw [Mode.frz_w] at hw
      cases hw
  nw := fun l m d e => by
    obtain ⟨m0, e0, h1, h2⟩ := frz1_get.2 m d e
    obtain ⟨z1, z2⟩ := R.nw l m0 d e0
    rcases h1 with rfl | rfl
    · exact ⟨z1, z2⟩
    · exact ⟨by rw [Mode.frz_new]; exact z1, fun z => absurd z (Mode.frz_io m0)⟩
  fr := R.fr
  pr := R.pr
  pt := R.pt
  tb := R.tb
theorem freeze_get : ∀ {S : List Nat} {E : Env} {l : Nat}, (∀ m d, E[l]? = some (some (m, d)) → ∃ m', (freeze E S)[l]? = some (some (m', d)) ∧ (l ∈ S → m'.w = false)) ∧ (∀ m d, (freeze E S)[l]? = some (some (m, d)) → ∃ m0, E[l]? = some (some (m0, d)) ∧ (m.w = true → m = m0 ∧ l ∉ S))
  | [], E, l => ⟨fun m d e => ⟨m, e, fun z => by cases z⟩, fun m d e => ⟨m, e, fun z => ⟨rfl, by simp⟩⟩⟩
  | j :: S, E, l => by
    have ih := @freeze_get S (frz1 E j) l
    have z := @frz1_get _ E j l
    refine ⟨fun m d e => ?_, fun m d e => ?_⟩
    · obtain ⟨m1, e1, h1, h2⟩ := z.1 m d e
      obtain ⟨m2, e2, h3⟩ := ih.1 m1 d e1
      refine ⟨m2, e2, fun hl => ?_⟩
      rcases List.mem_cons.mp hl with hl | hl
      · obtain ⟨m3, e3, h4⟩ := ih.2 m2 d e2
        cases hw : m2.w with
        | false => rfl
        | true =>
          obtain ⟨e4, _⟩ := h4 hw
          rw [e1] at e3
          cases e3
          rw [e4, h2 hl, Mode.frz_w] at hw
          cases hw
      · exact h3 hl
    · obtain ⟨m1, e1, h1⟩ := ih.2 m d e
      obtain ⟨m0, e0, h2, h3⟩ := z.2 m1 d e1
      refine ⟨m0, e0, fun hw => ?_⟩
      obtain ⟨h4, h5⟩ := h1 hw
      subst h4
      rcases h2 with rfl | rfl
      · refine ⟨rfl, fun hm => ?_⟩
        rcases List.mem_cons.mp hm with hm | hm
        · rw [h3 hm, Mode.frz_w] at hw
          cases hw
        · exact h5 hm
      · rw [Mode.frz_w] at hw
        cases hw
theorem freeze_len : ∀ {S : List Nat} {E : Env}, (freeze E S).length = E.length
  | [], _ => rfl
  | j :: S, E => (freeze_len (S := S) (E := VL.frz1 E j)).trans frz1_len
theorem Rel.freeze : ∀ {S : List Nat} {E : Env}, Rel G C H σ E Fs → Rel G C H σ (VL.freeze E S) Fs
  | [], _, R => R
  | j :: S, E, R => Rel.freeze (S := S) (R.frz1 (j := j))
theorem FsSet_self : FsSet Fs i F i = F := if_pos rfl
theorem Rel.putV {S : List Nat} {H1 : Hp} (R : Rel G C H σ E Fs) (hi : i < E.length) (hn : ∀ a, H1 a = none → C.H0 a = none ∧ ¬ C.T a) (rd : Rds G H d v F) (vw : Vw H1 E Fs S F) : Rel G C H (σ.set i (some v)) (putV E i S d) (FsSet Fs i F) := by
  have R1 := R.freeze (S := S)
  unfold VL.putV
  have asg : ∀ {j}, Asg E j → ∀ a, a ∈ Fs j → newAll E S = true → j ∈ S → C.H0 a = none := fun {j} ⟨m, d, e⟩ a ha hn hj => by
    have z := List.all_eq_true.mp hn j hj
    rw [e] at z
    exact (R.nw j m d e).1 z a ha
  have c2 : ∀ m, m = Mode.shr ∨ m = Mode.arg → ∀ j m' d', j ≠ i → (VL.freeze E S)[j]? = some (some (m', d')) → (m.w = true ∨ m'.w = true) → ∀ a ∈ F, a ∉ Fs j := fun m hm j m' d' hj e hw a ha hf => by
    have hw' : m'.w = true := hw.elim (fun z => by rcases hm with rfl | rfl <;> cases z) id
    obtain ⟨m0, e0, h0⟩ := freeze_get.2 m' d' e
    obtain ⟨h1, h2⟩ := h0 hw'
    subst h1
    rcases vw a ha with ⟨s, hs, ⟨m3, d3, e3⟩, h3⟩ | h3
    · exact (R.nd j _ d' e0 hw').2.2 s m3 d3 (fun z => h2 (by rw [← z]; exact hs)) e3 a hf h3
    · exact h3.2 j ⟨_, _, e0⟩ hf
  split
  · rename_i hnew
    refine R1.set (by rw [freeze_len]; exact hi) rd (by decide) (fun z => by cases z) (c2 _ (.inl rfl)) (fun _ a ha => ?_)
    rcases vw a ha with ⟨s, hs, h2, h3⟩ | h3
    · exact asg h2 a h3 hnew hs
    · exact (hn a h3.1).1
  · exact R1.set (by rw [freeze_len]; exact hi) rd (by decide) (fun z => by cases z) (c2 _ (.inr rfl)) (fun z => by cases z)
theorem Rel.setOwn {H1 : Hp} (R : Rel G C H σ E Fs) (hi : i < E.length) (hn : ∀ a, H1 a = none → C.H0 a = none ∧ ¬ C.T a) (rd : Rds G H d v F) (nd : F.Nodup) (l : ∀ a ∈ F, Loose H1 E Fs a) : Rel G C H (σ.set i (some v)) (E.set i (some (.own, d))) (FsSet Fs i F) :=
  R.set hi rd (by decide) (fun _ => ⟨nd, fun a ha => (hn a (l a ha).1).2⟩) (fun j m' d' hj e _ a ha => (l a ha).2 j ⟨m', d', e⟩) (fun _ a ha => (hn a (l a ha).1).1)
theorem flat_one {d : D} {v : V} {F : List Addr} (hf : d.flat = true) (r : Rds G H d v F) : ∃ a, F = [a] ∧ d.node = true := by
  cases d <;> unfold D.flat at hf <;> first | cases hf | skip
  · obtain ⟨a, us, A, rfl, h3, h4, rfl⟩ := rds_lst.mp r
    rw [RdsL.atom _ _ _ hf h4]
    exact ⟨a, rfl, rfl⟩
  · obtain ⟨a, us, A, rfl, h3, _, h4, rfl⟩ := rds_dct.mp r
    rw [RdsL.atom _ _ _ hf h4]
    exact ⟨a, rfl, rfl⟩
theorem Rel.putE {H1 : Hp} {k : Kind} (R : Rel G C H σ E Fs) (hi : i < E.length) (hn : ∀ a, H1 a = none → C.H0 a = none ∧ ¬ C.T a) (rd : Rds G H d v F) (ko : KOk σ H1 E Fs k d v F) : Rel G C H (σ.set i (some v)) (putE E i k d) (FsSet Fs i F) := by
  unfold VL.putE
  split
  · rename_i ha
    have e := Rds.atom d v F ha rd
    subst e
    exact R.setOwn (H1 := H1) hi hn rd List.nodup_nil (fun a h => by cases h)
  · cases k with
    | own => exact R.setOwn hi hn rd ko.1 (fun a ha => (ko.2 a ha).elim (fun ⟨_, z, _⟩ => by cases z) id)
    | sub j => exact R.putV hi hn rd (KOk.vw (k := .sub j) (d := d) ko)
    | top S =>
      dsimp only
      split
      · rename_i hf
        obtain ⟨a, rfl, hnode⟩ := flat_one hf rd
        refine R.setOwn hi hn rd (by simp) (fun b hb => ?_)
        rw [List.mem_singleton.mp hb]
        exact ko.2 a [] hnode rfl
      · exact R.putV hi hn rd ko.1
    | vw S => exact R.putV hi hn rd ko
    | ref j => exact R.putV hi hn rd (KOk.vw (k := .ref j) (d := d) ko)
theorem Rel.hn {H1 : Hp} {σ1 : L2.St} {E1 : Env} {Fs1 : Nat → List Addr} (R : Rel G C H1 σ1 E1 Fs1) : ∀ a, H1 a = none → C.H0 a = none ∧ ¬ C.T a := fun a n => ⟨R.fr.back n, fun t => by
  obtain ⟨o, e, _⟩ := R.pt a t
  obtain ⟨o', e'⟩ := R.pr.there e
  rw [n] at e'
  cases e'⟩
end
inductive Out where
  | nx (E : Env) | rt (d : D) (E : Env) | bk (E : Env) | ct (E : Env)
abbrev SF := Env → Option Out
def RetOk (ro : Bool) (C : Ctx) (E : Env) (Fs : Nat → List Addr) (F : List Addr) : Prop := (ro = true → F.Nodup) ∧ ∀ a ∈ F, C.H0 a = none ∧ ∀ i d, E[i]? = some (some (.io, d)) → a ∉ Fs i
def Post (G : Gb) (ro : Bool) (C : Ctx) (N : Ends) : Out → Prop
  | .nx E => ∀ σ H Fs, Rel G C H σ E Fs → N.nx σ H
  | .bk E => ∀ σ H Fs, Rel G C H σ E Fs → N.bk σ H
  | .ct E => ∀ σ H Fs, Rel G C H σ E Fs → N.ct σ H
  | .rt d E => ∀ v σ H Fs F, Rel G C H σ E Fs → Rds G H d v F → RetOk ro C E Fs F → N.rt v H
def tVS (G : Gb) (ro : Bool) (S : SF) : TS := fun N σ H => ∃ C E Fs, Rel G C H σ E Fs ∧ ∃ o, S E = some o ∧ Post G ro C N o
abbrev VS (G : Gb) (X : Cx) (ro : Bool) (st : Stmt) (S : SF) : Prop := PS X st (tVS G ro S)
abbrev VSs (G : Gb) (X : Cx) (ro : Bool) (sts : List Stmt) (S : SF) : Prop := PSs X sts (tVS G ro S)
def sNext : SF := fun E => some (.nx E)
def sNever : SF := fun _ => none
def sSeq (S T : SF) : SF := fun E => match S E with
  | some (.nx E') => T E'
  | r => r
section
variable {G : Gb} {X : Cx} {ro : Bool} {st : Stmt} {rest : List Stmt} {S T : SF} {e : Expr} {M : List Nat} {k : Kind} {f : EF} {pos : Pos}
theorem vss_nil : VSs G X ro [] sNext := PSs.imp pss_nil fun N σ H ⟨C, E, Fs, R, o, e, q⟩ => by
  cases e
  exact q σ H Fs R
theorem vs_never : VS G X ro st sNever := PS.imp ps_never fun N σ H ⟨C, E, Fs, R, o, e, q⟩ => by cases e
theorem vss_cons (h1 : VS G X ro st S) (h2 : VSs G X ro rest T) : VSs G X ro (st :: rest) (sSeq S T) := PSs.imp (pss_cons h1 h2) fun N σ H ⟨C, E, Fs, R, o, e, q⟩ => by
  unfold sSeq at e
  split at e
  · rename_i E1 e1
    exact ⟨C, E, Fs, R, _, e1, fun σ1 H1 Fs1 R1 => ⟨C, E1, Fs1, R1, o, e, q⟩⟩
  · rename_i hn
    refine ⟨C, E, Fs, R, o, e, ?_⟩
    cases o with
    | nx E' => exact absurd e (hn E')
    | rt d E' => exact q
    | bk E' => exact q
    | ct E' => exact q
theorem vss_one (h1 : VS G X ro st S) : VSs G X ro [st] S := pss_one h1
def sDrop (f : EF) : SF := fun E => match f E with
  | some (_, E') => some (.nx E')
  | none => none
theorem vs_expr (he : VE G X e M k f) (hs : swapsWith e none pos.line X.env = pure false := by rfl) : VS G X ro (.Expr e pos) (sDrop f) := PS.imp (ps_expr he hs) fun N σ H ⟨C, E, Fs, R, o, e, q⟩ => by
  unfold sDrop at e
  split at e
  · rename_i d E1 e1
    cases e
    exact ⟨C, E, Fs, R, d, E1, e1, fun v H' Fs' F R' s' r' k' => q σ H' Fs' R'⟩
  · cases e
def allNew (E : Env) (S : List Nat) : Bool := S.all fun j => match E[j]? with
  | some (some (m, _)) => m.new
  | _ => true
def retOk (ro : Bool) (k : Kind) (E : Env) (d : D) : Bool := d.atom || match k with
  | .own => true
  | .sub i => (match E[i]? with
    | some (some (.own, _)) => true
    | some (some (.shr, _)) => !ro
    | _ => false)
  | .top S => d.flat || (!ro && allNew E S)
  | .vw S => !ro && allNew E S
  | .ref _ => false
def sRet (ro : Bool) (k : Kind) (f : EF) : SF := fun E => match f E with
  | some (d, E') => if retOk ro k E' d then some (.rt d E') else none
  | none => none
theorem retOk_of {C : Ctx} {H H1 : Hp} {σ : L2.St} {E : Env} {Fs : Nat → List Addr} {d : D} {v : V} {F : List Addr} (h : retOk ro k E d = true) (R : Rel G C H σ E Fs) (hn : ∀ a, H1 a = none → C.H0 a = none ∧ ¬ C.T a) (rd : Rds G H d v F) (ko : KOk σ H1 E Fs k d v F) : RetOk ro C E Fs F := by
  have vwCase : ∀ {S : List Nat}, allNew E S = true → Vw H1 E Fs S F → ∀ a ∈ F, C.H0 a = none ∧ ∀ i d, E[i]? = some (some (.io, d)) → a ∉ Fs i := fun {S} hS vw a ha => by
    rcases vw a ha with ⟨s, hs, ⟨m, d, e⟩, h3⟩ | h3
    · have z := List.all_eq_true.mp hS s hs
      rw [e] at z
      refine ⟨(R.nw s m d e).1 z a h3, fun i d' e' hi => ?_⟩
      by_cases hsi : s = i
      · subst hsi
        rw [e] at e'
        cases e'
        cases z
      · exact (R.nd i .io d' e' rfl).2.2 s m d hsi e a hi h3
    · exact ⟨(hn a h3.1).1, fun i d' e' => h3.2 i ⟨_, _, e'⟩⟩
  unfold retOk at h
  rw [Bool.or_eq_true] at h
  rcases h with h | h
  · have e := Rds.atom d v F h rd
    subst e
    exact ⟨fun _ => List.nodup_nil, fun a ha => by cases ha⟩
  · cases k with
    | own => exact ⟨fun _ => ko.1, fun a ha => vwCase (S := []) rfl ko.2 a ha⟩
    | sub i =>
      dsimp only at h
      split at h
      · rename_i d' e
        exact ⟨fun _ => ko.2.nodup (R.nd i _ _ e rfl).1, fun a ha => vwCase (S := [i]) (by simp only [allNew, List.all_cons, e, List.all_nil]; rfl) (KOk.vw (k := .sub i) (d := d) ko) a ha⟩
      · rename_i d' e
        refine ⟨fun z => ?_, fun a ha => vwCase (S := [i]) (by simp only [allNew, List.all_cons, e, List.all_nil]; rfl) (KOk.vw (k := .sub i) (d := d) ko) a ha⟩
        rw [z] at h
        cases h
      · cases h
    | top S =>
      dsimp only at h
      rw [Bool.or_eq_true, Bool.and_eq_true] at h
      rcases h with h | ⟨h1, h2⟩
      · obtain ⟨a, rfl, hnode⟩ := flat_one h rd
        have l := ko.2 a [] hnode rfl
        refine ⟨fun _ => by simp, fun b hb => ?_⟩
        rw [List.mem_singleton.mp hb]
        exact ⟨(hn a l.1).1, fun i d' e' => l.2 i ⟨_, _, e'⟩⟩
      · refine ⟨fun z => ?_, vwCase h2 ko.1⟩
        rw [z] at h1
        cases h1
    | vw S =>
      dsimp only at h
      rw [Bool.and_eq_true] at h
      refine ⟨fun z => ?_, vwCase h.2 ko⟩
      rw [z] at h
      cases h.1
    | ref i => cases h
theorem vs_ret (he : VE G X e M k f) : VS G X ro (.Return (some e) pos) (sRet ro k f) := PS.imp (ps_ret he) fun N σ H ⟨C, E, Fs, R, o, e, q⟩ => by
  unfold sRet at e
  split at e
  · rename_i d E1 e1
    split at e
    · rename_i hr
      cases e
      exact ⟨C, E, Fs, R, d, E1, e1, fun v H' Fs' F R' s' r' k' => q v σ H' Fs' F R' r' (retOk_of hr R' R.hn r' k')⟩
    · cases e
  · cases e
def sRetN : SF := fun E => some (.rt .non E)
def sIf (t : TF) (S T : SF) : SF := fun E => match t E with
  | some (true, E') => S E'
  | some (false, E') => T E'
  | none => none
theorem vs_if {c : Expr} {a b : List Stmt} {t : TF} (hc : VT G X c M t) (ha : VSs G X ro a S) (hb : VSs G X ro b T) : VS G X ro (.If c a b pos) (sIf t S T) := PS.imp (ps_if hc ha hb) fun N σ H ⟨C, E, Fs, R, o, e, q⟩ => by
  unfold sIf at e
  split at e
  · rename_i E1 e1
    refine ⟨C, E, Fs, R, true, E1, e1, fun H1 Fs1 R1 s1 => ?_⟩
    exact ite_tt ⟨C, E1, Fs1, R1, o, e, q⟩
  · rename_i E1 e1
    refine ⟨C, E, Fs, R, false, E1, e1, fun H1 Fs1 R1 s1 => ?_⟩
    exact ite_ff ⟨C, E1, Fs1, R1, o, e, q⟩
  · cases e
def sSet (i : Nat) (k : Kind) (f : EF) : SF := fun E => match f E with
  | some (d, E') => if i < E'.length then some (.nx (putE E' i k d)) else none
  | none => none
theorem asg_set {i : Nat} {N : Ends} {σ : L2.St} {H : Hp} (h : tVS G ro (sSet i k f) N σ H) : tV G M k f σ H fun x H1 => gName i x σ H1 N.nx := by
  obtain ⟨C, E, Fs, R, o, e, q⟩ := h
  unfold sSet at e
  split at e
  · rename_i d E1 e1
    split at e
    · rename_i hi
      cases e
      exact ⟨C, E, Fs, R, d, E1, e1, fun v H' Fs' F R' s' r' k' => q _ _ _ (R'.putE hi R.hn r' k')⟩
    · cases e
  · cases e
theorem vs_set {i : Nat} {x : Str} {pos' : Pos} (hN : X.N.Nodup) (hi : X.N[i]? = some x) (hx : Loc X.env.scope x) (he : VE G X e M k f) (hs : swapsWith e (some (.Name x pos')) pos.line X.env = pure false := by rfl)
    (hf : X.fn x = true ∨ X.env.scope.names.lookup x = some .local := by first | exact .inl rfl | exact .inr rfl | assumption) : VS G X ro (.Assign [.Name x pos'] e pos) (sSet i k f) :=
  PS.imp (ps_set hN hi hx he hs hf) fun N σ H h => asg_set (M := M) h
end
end
end VL
set_option maxHeartbeats 4000000
namespace VL
noncomputable section
open PySem PySem.Spec PyProof.Rows L2
open GxR (TabB Tabbed)
variable [LamT]
inductive BK where
  | ex (k : Kind) | pr (b : Bool)
def putP (E : Env) (i : Nat) (b : Bool) (d : D) : Env := if d.atom then E.set i (some (.own, d)) else E.set i (some (if b then .shr else .arg, d))
def bindN (bk : BK) (i : Nat) (d : D) (E : Env) : Env := match bk with
  | .ex k => putE E i k d
  | .pr b => putP E i b d
def BK.part : BK → BK
  | .ex k => .ex (kPart [k])
  | .pr b => .pr b
def BK.S : BK → List Nat
  | .ex k => k.S
  | .pr _ => []
def BOk (σ : L2.St) (C : Ctx) (H : Hp) (E : Env) (Fs : Nat → List Addr) (bk : BK) (d : D) (v : V) (F : List Addr) : Prop := match bk with
  | .ex k => KOk σ H E Fs k d v F
  | .pr b => (∀ a ∈ F, C.T a) ∧ (b = true → ∀ a ∈ F, C.H0 a = none)
def BOkL (C : Ctx) (H : Hp) (E : Env) (Fs : Nat → List Addr) (bk : BK) (F : List Addr) : Prop := match bk with
  | .ex .own => F.Nodup ∧ Vw H E Fs [] F
  | .ex (.sub i) => Asg E i ∧ F.Sublist (Fs i)
  | .ex (.ref i) => Asg E i ∧ F.Sublist (Fs i)
  | .ex (.top S) => Vw H E Fs S F
  | .ex (.vw S) => Vw H E Fs S F
  | .pr b => (∀ a ∈ F, C.T a) ∧ (b = true → ∀ a ∈ F, C.H0 a = none)
structure BStp (bk : BK) (W : List Nat) (F : List Addr) (σ σ' : L2.St) (E E' : Env) (Fs Fs' : Nat → List Addr) : Prop where
  fs : ∀ i, i ∉ W → Fs' i = Fs i
  inW : ∀ i ∈ W, ∀ a ∈ Fs' i, a ∈ F
  asg : ∀ i, i ∉ W → (Asg E' i ↔ Asg E i)
  aw : ∀ i ∈ W, Asg E' i
  cov : ∀ a ∈ F, ∃ i ∈ W, a ∈ Fs' i
  len : σ'.length = σ.length
  sg : ∀ i, i ∉ W → σ'[i]? = σ[i]?
  env : ∀ b, bk = .pr b → ∀ i, i ∉ W → E'[i]? = E[i]?
def tVG (G : Gb) (bk : BK) (W : List Nat) (g : D → Env → Option Env) : TG := fun v σ H Q => ∃ C E Fs H1 F d, Rel G C H σ E Fs ∧ (∀ a, H1 a = none → C.H0 a = none ∧ ¬ C.T a) ∧ Rds G H d v F ∧ BOk σ C H1 E Fs bk d v F ∧
  ∃ E', g d E = some E' ∧ ∀ σ' Fs', Rel G C H σ' E' Fs' → BStp bk W F σ σ' E E' Fs Fs' → Q σ' H
abbrev VG (G : Gb) (X : Cx) (t : Expr) (bk : BK) (W : List Nat) (g : D → Env → Option Env) : Prop := PG X t (tVG G bk W g)
def tVGs (G : Gb) (bk : BK) (W : List Nat) (g : List D → Env → Option Env) : TGs := fun vs σ H Q => ∃ C E Fs H1 F ds, Rel G C H σ E Fs ∧ (∀ a, H1 a = none → C.H0 a = none ∧ ¬ C.T a) ∧ RdsL G H ds vs F ∧ BOkL C H1 E Fs bk F ∧
  ∃ E', g ds E = some E' ∧ ∀ σ' Fs', Rel G C H σ' E' Fs' → BStp bk W F σ σ' E E' Fs Fs' → Q σ' H
abbrev VGs (G : Gb) (X : Cx) (t : List Expr) (bk : BK) (W : List Nat) (g : List D → Env → Option Env) : Prop := PGs X t (tVGs G bk W g)
theorem PG.imp {X : Cx} {e : Expr} {t t' : TG} (h : PG X e t) (i : ∀ v σ H Q, t' v σ H Q → t v σ H Q) : PG X e t' := ⟨fun pins s σ H v u Q I r q => h.run pins s σ H v u Q I r (i v σ H Q q)⟩
theorem PGs.imp {X : Cx} {e : List Expr} {t t' : TGs} (h : PGs X e t) (i : ∀ v σ H Q, t' v σ H Q → t v σ H Q) : PGs X e t' := ⟨fun pins s σ H v u Q I r q => h.run pins s σ H v u Q I r (i v σ H Q q)⟩
def gSet (bk : BK) (i : Nat) : D → Env → Option Env := fun d E => if i < E.length then some (bindN bk i d E) else none
section
variable {G : Gb} {X : Cx} {C : Ctx} {H : Hp} {σ : L2.St} {E : Env} {Fs : Nat → List Addr} {i : Nat} {d : D} {v : V} {F : List Addr} {bk : BK}
theorem Rel.putP {b : Bool} (R : Rel G C H σ E Fs) (hi : i < E.length) (rd : Rds G H d v F) (h : (∀ a ∈ F, C.T a) ∧ (b = true → ∀ a ∈ F, C.H0 a = none)) : Rel G C H (σ.set i (some v)) (putP E i b d) (FsSet Fs i F) := by
  unfold VL.putP
  split
  · rename_i ha
    have e := Rds.atom d v F ha rd
    subst e
    exact R.setOwn (H1 := H) hi R.hn rd List.nodup_nil (fun a h => by cases h)
  · have c2 : ∀ m : Mode, m.w = false → ∀ j m' d', j ≠ i → E[j]? = some (some (m', d')) → (m.w = true ∨ m'.w = true) → ∀ a ∈ F, a ∉ Fs j := fun m hm j m' d' hj e hw a ha hf => by
      have hw' : m'.w = true := hw.elim (fun z => by rw [hm] at z; cases z) id
      exact (R.nd j m' d' e hw').2.1 a hf (h.1 a ha)
    cases b with
    | true => exact R.set hi rd (by decide) (fun z => by cases z) (c2 _ rfl) (fun _ => h.2 rfl)
    | false => exact R.set hi rd (by decide) (fun z => by cases z) (c2 _ rfl) (fun z => by cases z)
theorem asg_frz {S : List Nat} {j : Nat} : Asg (freeze E S) j ↔ Asg E j :=
  ⟨fun ⟨m, d, e⟩ => let ⟨m0, e0, _⟩ := freeze_get.2 m d e; ⟨m0, d, e0⟩, fun ⟨m, d, e⟩ => let ⟨m0, e0, _⟩ := freeze_get.1 m d e; ⟨m0, d, e0⟩⟩
theorem asg_set_ne {x : Option (Mode × D)} {j : Nat} (h : j ≠ i) : Asg (E.set i x) j ↔ Asg E j := by
  unfold Asg
  rw [List.getElem?_set_ne (Ne.symm h)]
theorem asg_putV {S : List Nat} {j : Nat} (h : j ≠ i) : Asg (putV E i S d) j ↔ Asg E j := by
  unfold putV
  rw [asg_set_ne h, asg_frz]
theorem asg_bind {j : Nat} (h : j ≠ i) : Asg (bindN bk i d E) j ↔ Asg E j := by
  cases bk with
  | ex k =>
    show Asg (putE E i k d) j ↔ _
    unfold putE
    split
    · exact asg_set_ne h
    · cases k with
      | own => exact asg_set_ne h
      | sub l => exact asg_putV h
      | ref l => exact asg_putV h
      | vw S => exact asg_putV h
      | top S =>
        dsimp only
        split
        · exact asg_set_ne h
        · exact asg_putV h
  | pr b =>
    show Asg (putP E i b d) j ↔ _
    unfold putP
    split
    · exact asg_set_ne h
    · exact asg_set_ne h
theorem get_set_self {x : Mode × D} (hi : i < E.length) : Asg (E.set i (some x)) i := ⟨x.1, x.2, List.getElem?_set_self hi⟩
theorem asg_putV_self {S : List Nat} (hi : i < E.length) : Asg (putV E i S d) i := by
  unfold putV
  exact get_set_self (by rw [freeze_len]; exact hi)
theorem asg_bind_self (hi : i < E.length) : Asg (bindN bk i d E) i := by
  cases bk with
  | ex k =>
    show Asg (putE E i k d) i
    unfold putE
    split
    · exact get_set_self hi
    · cases k with
      | own => exact get_set_self hi
      | sub l => exact asg_putV_self hi
      | ref l => exact asg_putV_self hi
      | vw S => exact asg_putV_self hi
      | top S =>
        dsimp only
        split
        · exact get_set_self hi
        · exact asg_putV_self hi
  | pr b =>
    show Asg (putP E i b d) i
    unfold putP
    split
    · exact get_set_self hi
    · exact get_set_self hi
theorem Rel.bind {H1 : Hp} (R : Rel G C H σ E Fs) (hi : i < E.length) (hn : ∀ a, H1 a = none → C.H0 a = none ∧ ¬ C.T a) (rd : Rds G H d v F) (bo : BOk σ C H1 E Fs bk d v F) : Rel G C H (σ.set i (some v)) (bindN bk i d E) (FsSet Fs i F) ∧ BStp bk [i] F σ (σ.set i (some v)) E (bindN bk i d E) Fs (FsSet Fs i F) := by
  refine ⟨?_, fun j hj => if_neg fun z => hj (by rw [z]; exact List.mem_singleton.mpr rfl), fun j hj a ha => ?_, fun j hj => asg_bind fun z => hj (by rw [z]; exact List.mem_singleton.mpr rfl), fun j hj => (by rw [List.mem_singleton.mp hj]; exact asg_bind_self hi), fun a ha => ⟨i, List.mem_singleton.mpr rfl, by rw [FsSet_self]; exact ha⟩, List.length_set, fun j hj => List.getElem?_set_ne (fun z => hj (by rw [z]; exact List.mem_singleton.mpr rfl)), fun b hb j hj => ?_⟩
  · cases bk with
    | ex k => exact R.putE hi hn rd bo
    | pr b => exact R.putP hi rd bo
  · rw [List.mem_singleton.mp hj, FsSet_self] at ha
    exact ha
  · subst hb
    have hne : i ≠ j := fun z => hj (by rw [z]; exact List.mem_singleton.mpr rfl)
    show (VL.putP E i b d)[j]? = E[j]?
    unfold VL.putP
    split <;> exact List.getElem?_set_ne hne
theorem vg_name {x : Str} {pos : Pos} (hN : X.N.Nodup) (hi : X.N[i]? = some x) (hx : Loc X.env.scope x) (hf : X.fn x = true ∨ X.env.scope.names.lookup x = some .local := by first | exact .inl rfl | exact .inr rfl | assumption) : VG G X (.Name x pos) bk [i] (gSet bk i) :=
  PG.imp (pg_name hN hi hx hf) fun v σ H Q ⟨C, E, Fs, H1, F, d, R, hn, rd, bo, E', e, q⟩ => by
    unfold gSet at e
    split at e
    · rename_i hl
      cases e
      obtain ⟨R', b'⟩ := R.bind hl hn rd bo
      exact q _ _ R' b'
    · cases e
def gsNil : List D → Env → Option Env
  | [], E => some E
  | _, _ => none
def gsCons (g : D → Env → Option Env) (gs : List D → Env → Option Env) : List D → Env → Option Env
  | d :: ds, E => match g d E with
    | some E' => gs ds E'
    | none => none
  | [], _ => none
theorem vgs_nil : VGs G X [] bk [] gsNil := PGs.imp pgs_nil fun vs σ H Q ⟨C, E, Fs, H1, F, ds, R, hn, rd, bo, E', e, q⟩ => by
  cases ds with
  | nil =>
    cases e
    exact ⟨(rdsL_nil.mp rd).1, q σ Fs R ⟨fun _ _ => rfl, fun i hi => (by cases hi), fun _ _ => Iff.rfl, fun i hi => (by cases hi), fun a ha => (by rw [(rdsL_nil.mp rd).2] at ha; cases ha), rfl, fun _ _ => rfl, fun _ _ _ _ => rfl⟩⟩
  | cons d ds => cases e
theorem BOkL.split {H1 : Hp} {A B : List Addr} (h : BOkL C H1 E Fs bk (A ++ B)) : BOkL C H1 E Fs bk A ∧ BOkL C H1 E Fs bk B := by
  have vw : ∀ {S}, Vw H1 E Fs S (A ++ B) → Vw H1 E Fs S A ∧ Vw H1 E Fs S B := fun z => ⟨fun a ha => z a (List.mem_append_left _ ha), fun a ha => z a (List.mem_append_right _ ha)⟩
  cases bk with
  | pr b => exact ⟨⟨fun a ha => h.1 a (List.mem_append_left _ ha), fun z a ha => h.2 z a (List.mem_append_left _ ha)⟩, ⟨fun a ha => h.1 a (List.mem_append_right _ ha), fun z a ha => h.2 z a (List.mem_append_right _ ha)⟩⟩
  | ex k =>
    cases k with
    | own =>
      obtain ⟨h1, h2⟩ := h
      rw [List.nodup_append] at h1
      exact ⟨⟨h1.1, (vw h2).1⟩, ⟨h1.2.1, (vw h2).2⟩⟩
    | sub i => exact ⟨⟨h.1, (List.sublist_append_left A B).trans h.2⟩, ⟨h.1, (List.sublist_append_right A B).trans h.2⟩⟩
    | ref i => exact ⟨⟨h.1, (List.sublist_append_left A B).trans h.2⟩, ⟨h.1, (List.sublist_append_right A B).trans h.2⟩⟩
    | top S => exact vw h
    | vw S => exact vw h
theorem BOkL.one {H1 : Hp} {A : List Addr} (h : BOkL C H1 E Fs bk A) : BOk σ C H1 E Fs bk.part d v A := by
  cases bk with
  | pr b => exact h
  | ex k => cases k <;> exact h
def BK.nxt (W : List Nat) : BK → BK
  | .ex (.top S) => .ex (.vw (S ++ W))
  | .ex (.vw S) => .ex (.vw (S ++ W))
  | bk => bk
def BK.clear (W : List Nat) (bk : BK) : Bool := bk.S.all fun i => !W.contains i
theorem BOkL.step {H1 : Hp} {W : List Nat} {A B : List Addr} {E' : Env} {σ' : L2.St} {bk' : BK} {Fs' : Nat → List Addr} (h : BOkL C H1 E Fs bk (A ++ B)) (s : BStp bk' W A σ σ' E E' Fs Fs') (hc : bk.clear W = true) : BOkL C H1 E' Fs' (bk.nxt W) B := by
  have hs : ∀ i ∈ bk.S, i ∉ W := fun i hi hm => by
    have := List.all_eq_true.mp hc i hi
    simp [hm] at this
  have lo : ∀ a, a ∉ A → Loose H1 E Fs a → Loose H1 E' Fs' a := fun a ha l => ⟨l.1, fun j hj hm => by
    by_cases hw : j ∈ W
    · exact ha (s.inW j hw a hm)
    · rw [s.fs j hw] at hm
      exact l.2 j ((s.asg j hw).mp hj) hm⟩
  have vw : ∀ {S}, (∀ i ∈ S, i ∉ W) → Vw H1 E Fs S (A ++ B) → Vw H1 E' Fs' (S ++ W) B := fun {S} hS z a ha => by
    rcases z a (List.mem_append_right _ ha) with ⟨i, hi, h1, h2⟩ | l
    · exact .inl ⟨i, List.mem_append_left _ hi, (s.asg i (hS i hi)).mpr h1, by rw [s.fs i (hS i hi)]; exact h2⟩
    · by_cases hA : a ∈ A
      · obtain ⟨j, hj, hm⟩ := s.cov a hA
        exact .inl ⟨j, List.mem_append_right _ hj, s.aw j hj, hm⟩
      · exact .inr (lo a hA l)
  cases bk with
  | pr b => exact ⟨fun a ha => h.1 a (List.mem_append_right _ ha), fun z a ha => h.2 z a (List.mem_append_right _ ha)⟩
  | ex k =>
    cases k with
    | own =>
      obtain ⟨h1, h2⟩ := h
      rw [List.nodup_append] at h1
      refine ⟨h1.2.1, fun a ha => .inr (lo a (fun z => h1.2.2 a z a ha rfl) ?_)⟩
      rcases h2 a (List.mem_append_right _ ha) with ⟨_, z, _⟩ | z
      · cases z
      · exact z
    | sub i =>
      have n := hs i (List.mem_singleton.mpr rfl)
      exact ⟨(s.asg i n).mpr h.1, by rw [s.fs i n]; exact (List.sublist_append_right A B).trans h.2⟩
    | ref i =>
      have n := hs i (List.mem_singleton.mpr rfl)
      exact ⟨(s.asg i n).mpr h.1, by rw [s.fs i n]; exact (List.sublist_append_right A B).trans h.2⟩
    | top S => exact vw hs h
    | vw S => exact vw hs h
theorem vgs_cons {e : Expr} {es : List Expr} {W W' : List Nat} {g : D → Env → Option Env} {gs : List D → Env → Option Env} (h1 : VG G X e bk.part W g) (h2 : VGs G X es (bk.nxt W) W' gs) (hc : bk.clear W = true := by rfl) (hd : (W.all fun j => !W'.contains j) = true := by rfl)
    (hs : (assignEach (e :: es) X.env).map (·.2) = assign e X.env :: (assignEach es X.env).map (·.2) := by rfl) : VGs G X (e :: es) bk (W ++ W') (gsCons g gs) :=
  PGs.imp (pgs_cons h1 h2 hs) fun vs σ H Q ⟨C, E, Fs, H1, F, ds, R, hn, rd, bo, E', e, q⟩ => by
    cases ds with
    | nil => cases e
    | cons d ds =>
      obtain ⟨x, r, A, B, rfl, rfl, r1, r2⟩ := rdsL_cons.mp rd
      have e : (match g d E with
        | some E' => gs ds E'
        | none => none) = some E' := e
      cases e1 : g d E with
      | none => rw [e1] at e; cases e
      | some E1 =>
        rw [e1] at e
        refine ⟨x, r, rfl, C, E, Fs, H1, A, d, R, hn, r1, bo.split.1.one, E1, e1, fun σ1 Fs1 R1 b1 => ⟨C, E1, Fs1, H1, B, ds, R1, hn, r2, bo.step b1 hc, E', e, fun σ2 Fs2 R2 b2 => q σ2 Fs2 R2 ?_⟩⟩
        refine ⟨fun i hi => ?_, fun i hi a ha => ?_, fun i hi => ?_, fun i hi => ?_, fun a ha => ?_, b2.len.trans b1.len, fun i hi => (b2.sg i fun z => hi (List.mem_append_right _ z)).trans (b1.sg i fun z => hi (List.mem_append_left _ z)), fun b hb i hi => ?_⟩
        · rw [b2.fs i fun z => hi (List.mem_append_right _ z)]
          exact b1.fs i fun z => hi (List.mem_append_left _ z)
        · by_cases h2 : i ∈ W'
          · exact List.mem_append_right _ (b2.inW i h2 a ha)
          · rw [b2.fs i h2] at ha
            rcases List.mem_append.mp hi with z | z
            · exact List.mem_append_left _ (b1.inW i z a ha)
            · exact absurd z h2
        · rw [b2.asg i fun z => hi (List.mem_append_right _ z)]
          exact b1.asg i fun z => hi (List.mem_append_left _ z)
        · by_cases h2 : i ∈ W'
          · exact b2.aw i h2
          · rw [b2.asg i h2]
            rcases List.mem_append.mp hi with z | z
            · exact b1.aw i z
            · exact absurd z h2
        · rcases List.mem_append.mp ha with z | z
          · obtain ⟨j, hj, hm⟩ := b1.cov a z
            by_cases h2 : j ∈ W'
            · have := List.all_eq_true.mp hd j hj
              simp [h2] at this
            · exact ⟨j, List.mem_append_left _ hj, by rw [b2.fs j h2]; exact hm⟩
          · obtain ⟨j, hj, hm⟩ := b2.cov a z
            exact ⟨j, List.mem_append_right _ hj, hm⟩
        · subst hb
          exact (b2.env b rfl i fun z => hi (List.mem_append_right _ z)).trans (b1.env b rfl i fun z => hi (List.mem_append_left _ z))
theorem BOk.l {H1 : Hp} (h : BOk σ C H1 E Fs bk d v F) : BOkL C H1 E Fs bk F := by
  cases bk with
  | pr b => exact h
  | ex k =>
    cases k with
    | own => exact h
    | sub i => exact h
    | ref i =>
      obtain ⟨m, e, _, rfl⟩ := h
      exact ⟨⟨m, d, e⟩, List.Sublist.refl _⟩
    | top S => exact h.1
    | vw S => exact h
def gTupE (n : Nat) (gs : List D → Env → Option Env) : D → Env → Option Env
  | .tup ds, E => if ds.length = n then gs ds E else none
  | _, _ => none
theorem vg_tup (x : XOk G X) {es : List Expr} {k n : Nat} {pos : Pos} {W : List Nat} {gs : List D → Env → Option Env} (h : VGs G X es bk W gs) (hn : (assignEach es X.env).length = n := by rfl) (hst : (assignEach es X.env).findIdx? (·.1) = none := by rfl) : VG G X (.Tuple es k pos) bk W (gTupE n gs) :=
  PG.imp (pg_tup x.calm h hn hst) fun v σ H Q ⟨C, E, Fs, H1, F, d, R, hn, rd, bo, E', e, q⟩ => by
    unfold gTupE at e
    split at e
    · rename_i ds
      split at e
      · rename_i hl
        obtain ⟨a, xs, rfl, h1, h2⟩ := rds_tup.mp rd
        rw [x.K]
        exact ⟨a, xs, rfl, h1, by rw [rdsL_len h2]; exact hl, C, E, Fs, H1, F, ds, R, hn, h2, bo.l, E', e, q⟩
      · cases e
    · cases e
def sAsg (f : EF) (g : D → Env → Option Env) : SF := fun E => match f E with
  | some (d, E') => (match g d E' with
    | some E2 => some (.nx E2)
    | none => none)
  | none => none
structure ItOk (G : Gb) (J : It) (ds : List D) (F : List Addr) (Hb : Hp) : Prop where
  go : ∀ H i, Chg (fun a => a ∉ F) Hb H → i < ds.length → J.go i H
  yl : ∀ H i x H', Chg (fun a => a ∉ F) Hb H → i < ds.length → J.yld i H x H' → Chg No H H' ∧ ∃ d A, ds[i]? = some d ∧ Rds G H' d x A ∧ ∀ a ∈ A, a ∈ F
  st : ∀ H i, Chg (fun a => a ∉ F) Hb H → ds.length ≤ i → J.stop i H
abbrev IF := Env → Option (List D × Env)
def tVI (G : Gb) (M : List Nat) (k : Kind) (f : IF) : TI := fun σ H R => ∃ C E Fs, Rel G C H σ E Fs ∧ ∃ ds E', f E = some (ds, E') ∧
  ∀ J H' Fs' F, Rel G C H' σ E' Fs' → Stp M H H' E E' Fs Fs' → ItOk G J ds F H' → (∀ a ∈ F, ∃ o, H' a = some o ∧ MutO o = true) → Vw H E' Fs' k.S F → R J H'
abbrev VI (G : Gb) (X : Cx) (tg iter : Expr) (M : List Nat) (k : Kind) (f : IF) : Prop := PI X tg iter (tVI G M k f)
theorem PI.imp {tg e : Expr} {t t' : TI} (h : PI X tg e t) (i : ∀ σ H Q, t' σ H Q → t σ H Q) : PI X tg e t' := ⟨fun pins s σ H Q I q => h.run pins s σ H Q I (i σ H Q q)⟩
def forL (g : D → Env → Option Env) (b : SF) : List D → Env → Option Out
  | [], E => some (.nx E)
  | d :: ds, E => match g d E with
    | none => none
    | some E1 => match b E1 with
      | some (.nx E2) => forL g b ds E2
      | some (.ct E2) => forL g b ds E2
      | some (.bk E2) => some (.nx E2)
      | some (.rt r E2) => some (.rt r E2)
      | none => none
def sFor (k : Kind) (f : IF) (g : Bool → D → Env → Option Env) (b : SF) : SF := fun E => match f E with
  | some (ds, E') => forL (g (newAll E' k.S)) b ds (freeze E' k.S)
  | none => none
theorem Rel.lock {H1 : Hp} {S : List Nat} (R : Rel G C H σ E Fs) (hn : ∀ a, H1 a = none → C.H0 a = none ∧ ¬ C.T a) (tr : ∀ a ∈ F, ∃ o, H a = some o ∧ MutO o = true) (vw : Vw H1 E Fs S F) : Rel G { C with T := fun a => C.T a ∨ a ∈ F, HT := H } H σ (VL.freeze E S) Fs := by
  have R1 := R.freeze (S := S)
  refine ⟨R1.len, R1.rd, fun i m d e hw => ?_, R1.nw, R1.fr, Chg.refl _ _, fun q hq => ?_, R1.tb⟩
  · obtain ⟨h1, h2, h3⟩ := R1.nd i m d e hw
    refine ⟨h1, fun a ha hT => ?_, h3⟩
    rcases hT with hT | hT
    · exact h2 a ha hT
    · obtain ⟨m0, e0, h4⟩ := freeze_get.2 m d e
      obtain ⟨h5, h6⟩ := h4 hw
      subst h5
      rcases vw a hT with ⟨s, hs, ⟨m3, d3, e3⟩, h7⟩ | h7
      · exact (R.nd i _ d e0 hw).2.2 s m3 d3 (fun z => h6 (by rw [← z]; exact hs)) e3 a ha h7
      · exact h7.2 i ⟨_, _, e0⟩ ha
  · rcases hq with hq | hq
    · obtain ⟨o, e, hm⟩ := R.pt q hq
      exact ⟨o, R.pr.keep e hm (fun z => z hq), hm⟩
    · exact tr q hq
theorem Rel.unlock {Hb : Hp} {E0 : Env} {σ0 : L2.St} {Fs0 : Nat → List Addr} {T' : Addr → Prop} (R0 : Rel G C Hb σ0 E0 Fs0) (ht : ∀ a, C.T a → T' a) (R : Rel G { C with T := T', HT := Hb } H σ E Fs) : Rel G C H σ E Fs :=
  ⟨R.len, R.rd, fun i m d e hw => let ⟨h1, h2, h3⟩ := R.nd i m d e hw; ⟨h1, fun a ha hT => h2 a ha (ht a hT), h3⟩, R.nw, R.fr, (R0.pr.trans R.pr).mono fun q o e h => h.elim id fun z hT => z (ht q hT), R0.pt, R.tb⟩
end
end
end VL
set_option maxHeartbeats 4000000
namespace VL
noncomputable section
open PySem PySem.Spec PyProof.Rows L2
open GxR (TabB Tabbed)
variable [LamT]
section
variable {G : Gb} {X : Cx} {ro : Bool}
theorem pg_ex {tg : Expr} {W : List Nat} {g : Bool → D → Env → Option Env} (hg : ∀ b, VG G X tg (.pr b) W (g b)) : PG X tg (fun v σ H Q => ∃ b, tVG G (.pr b) W (g b) v σ H Q) :=
  ⟨fun pins s σ H v u Q I r ⟨b, q⟩ => (hg b).run pins s σ H v u Q I r q⟩
theorem new_of {C : Ctx} {H H1 : Hp} {σ : L2.St} {E : Env} {Fs : Nat → List Addr} {S : List Nat} {F : List Addr} (R : Rel G C H σ E Fs) (hn : ∀ a, H1 a = none → C.H0 a = none ∧ ¬ C.T a) (vw : Vw H1 E Fs S F) (h : newAll E S = true) : ∀ a ∈ F, C.H0 a = none := fun a ha => by
  rcases vw a ha with ⟨s, hs, ⟨m, d, e⟩, h3⟩ | h3
  · have z := List.all_eq_true.mp h s hs
    rw [e] at z
    exact (R.nw s m d e).1 z a h3
  · exact (hn a h3.1).1
theorem vs_for {tg iter : Expr} {body : List Stmt} {M W : List Nat} {k : Kind} {f : IF} {g : Bool → D → Env → Option Env} {b : SF} {pos : Pos} (x : XOk G X) (hp : PassesOwn (model X.prog X.w) X.A X.env X.xe) (hi : VI G X tg iter M k f) (hg : ∀ b, VG G X tg (.pr b) W (g b)) (hb : VSs G X ro body b)
    (hs : ∀ x, foldedSetIterable iter X.env x = pure x := by intro _; rfl) : VS G X ro (.For tg iter body [] pos) (sFor k f g b) := PS.imp (ps_for hp x.calm hi (pg_ex hg) hb hs) fun N σ H ⟨C, E, Fs, R, o, e, q⟩ => by
  unfold sFor at e
  split at e
  · rename_i ds E' e1
    refine ⟨C, E, Fs, R, ds, E', e1, fun J Hb Fs' F R' s' it tr vw => ?_⟩
    have R1 := R'.lock R.hn tr vw
    have nwF := new_of R' R.hn vw
    generalize newAll E' k.S = bb at e nwF
    have un : ∀ {σ2 H2 E2 Fs2}, Rel G { C with T := fun a => C.T a ∨ a ∈ F, HT := Hb } H2 σ2 E2 Fs2 → Rel G C H2 σ2 E2 Fs2 := fun r => R'.unlock (fun a ha => .inl ha) r
    refine ⟨fun i m σ2 H2 => m = ds.length - i ∧ i ≤ ds.length ∧ ∃ E2 Fs2, Rel G { C with T := fun a => C.T a ∨ a ∈ F, HT := Hb } H2 σ2 E2 Fs2 ∧ forL (g bb) b (ds.drop i) E2 = some o, ⟨ds.length, by simp, Nat.zero_le _, _, _, R1, e⟩, ?_⟩
    rintro i m σ2 H2 ⟨rfl, hi, E2, Fs2, R2, e2⟩
    have c2 : Chg (fun a => a ∉ F) Hb H2 := R2.pr.mono fun q o _ h hF => h (.inr hF)
    by_cases hlt : i < ds.length
    · refine .inr ⟨it.go H2 i c2 hlt, fun σ3 H3 => ∃ E3 Fs3, Rel G { C with T := fun a => C.T a ∨ a ∈ F, HT := Hb } H3 σ3 E3 Fs3 ∧ forL (g bb) b (ds.drop (i + 1)) E3 = some o, fun σ3 H3 h3 => ⟨ds.length - (i + 1), by omega, rfl, hlt, h3⟩, fun y H3 hy => ?_⟩
      obtain ⟨c3, d, A, ed, rd, hA⟩ := it.yl H2 i y H3 c2 hlt hy
      have ed' : ds.drop i = d :: ds.drop (i + 1) := by
        rw [List.drop_eq_getElem_cons hlt]
        rw [List.getElem?_eq_getElem hlt] at ed
        cases ed
        rfl
      rw [ed'] at e2
      unfold forL at e2
      have R3 := R2.chg c3
      cases e3 : g bb d E2 with
      | none => rw [e3] at e2; cases e2
      | some E3 =>
        rw [e3] at e2
        dsimp only at e2
        refine ⟨bb, _, E2, Fs2, H3, A, d, R3, R3.hn, rd, ⟨fun a ha => .inr (hA a ha), fun z a ha => nwF z a (hA a ha)⟩, E3, e3, fun σ4 Fs4 R4 _ => ?_⟩
        cases e4 : b E3 with
        | none => rw [e4] at e2; cases e2
        | some o1 =>
          rw [e4] at e2
          refine ⟨_, E3, Fs4, R4, o1, e4, ?_⟩
          cases o1 with
          | nx E5 => exact fun σ5 H5 Fs5 R5 => ⟨E5, Fs5, R5, e2⟩
          | ct E5 => exact fun σ5 H5 Fs5 R5 => ⟨E5, Fs5, R5, e2⟩
          | bk E5 =>
            cases e2
            exact fun σ5 H5 Fs5 R5 => q σ5 H5 Fs5 (un R5)
          | rt r E5 =>
            cases e2
            exact fun v σ5 H5 Fs5 F5 R5 r5 k5 => q v σ5 H5 Fs5 F5 (un R5) r5 k5
    · have ei : ds.drop i = [] := List.drop_eq_nil_of_le (by omega)
      rw [ei] at e2
      cases e2
      exact .inl ⟨it.st H2 i c2 (by omega), q σ2 H2 Fs2 (un R2)⟩
  · cases e
end
end
end VL
set_option maxHeartbeats 4000000
namespace VL
noncomputable section
open PySem PySem.Spec PyProof.Rows L2
open GxR (TabB Tabbed)
variable [LamT]
section
variable {G : Gb} {X : Cx} {tg e : Expr} {M M' : List Nat} {k k' : Kind} {f g : EF}
theorem PI.or {t t' : TI} (h : PI X tg e t) (h' : PI X tg e t') : PI X tg e (fun σ H R => t σ H R ∨ t' σ H R) := ⟨fun pins s σ H R I q => q.elim (h.run pins s σ H R I) (h'.run pins s σ H R I)⟩
theorem PE.or {t t' : TE} (h : PE X e t) (h' : PE X e t') : PE X e (fun σ H Q => t σ H Q ∨ t' σ H Q) := ⟨fun pins s σ H R I q => q.elim (h.run pins s σ H R I) (h'.run pins s σ H R I)⟩
theorem seq_stays {H H' : Hp} {d : D} {ds : List D} {v : V} {F : List Addr} (e : d.items = some ds) (r : Rds G H d v F) : ∃ a, v = .ref a ∧
    ((∀ es, d ≠ .tup es) → ∀ H', Chg (fun a => a ∉ F) H H' → ∃ us A, SqL G.K H' a us ∧ RdsL G H' ds us A ∧ A.Sublist F) ∧
    ((∃ es, d = .tup es) → ∀ H', Chg (fun a => a ∉ F) H H' → ∃ us A, SqT G.K H' a us ∧ RdsL G H' ds us A ∧ A.Sublist F) := by
  cases d <;> unfold D.items at e <;> first | cases e | skip
  · obtain ⟨a, us, rfl, h3, h4⟩ := rds_tup.mp r
    exact ⟨a, rfl, fun z => absurd rfl (z _), fun _ H' c => ⟨us, F, SqT.chg c h3, RdsL.chg c _ _ _ (fun a ha z => z ha) h4, List.Sublist.refl _⟩⟩
  · obtain ⟨a, us, A, rfl, h3, h4, rfl⟩ := rds_lst.mp r
    refine ⟨a, rfl, fun _ H' c => ⟨us, A, SqL.of (c.keep h3 rfl fun z => z List.mem_cons_self), RdsL.chg c _ _ _ (fun a ha z => z (List.mem_cons_of_mem _ ha)) h4, List.sublist_cons_self ..⟩, fun ⟨es, z⟩ => by cases z⟩
  · obtain ⟨a, rfl, h3, rfl⟩ := rds_scr.mp r
    exact ⟨a, rfl, fun _ H' c => ⟨_, [], (ScrAt.chg c h3).sql, rdsL_mk_ints _, List.Sublist.refl _⟩, fun ⟨es, z⟩ => by cases z⟩
theorem itOk_list {Hb : Hp} {a : Addr} {ds : List D} {F : List Addr} (h : ∀ H', Chg (fun a => a ∉ F) Hb H' → ∃ us A, SqL G.K H' a us ∧ RdsL G H' ds us A ∧ A.Sublist F) : ItOk G (Itl G.K a) ds F Hb where
  go := fun H i c hi => by
    obtain ⟨us, A, h1, h2, h3⟩ := h H c
    have hl := rdsL_len h2
    exact ⟨us, us[i], h1, List.getElem?_eq_getElem (by omega)⟩
  yl := fun H i x H' c hi ⟨e, hy⟩ => by
    subst e
    obtain ⟨us, A, h1, h2, h3⟩ := h H' c
    obtain ⟨y, B, h4, h5, h6⟩ := rdsL_get h2 (List.getElem?_eq_getElem hi)
    have e := hy us h1
    rw [h4] at e
    cases e
    exact ⟨Chg.refl _ _, _, B, List.getElem?_eq_getElem hi, h5, fun z hz => h3.subset (h6.subset hz)⟩
  st := fun H i c hi => by
    obtain ⟨us, A, h1, h2, h3⟩ := h H c
    exact ⟨us, h1, by rw [rdsL_len h2]; exact hi⟩
theorem itOk_tup {Hb : Hp} {a : Addr} {ds : List D} {F : List Addr} (h : ∀ H', Chg (fun a => a ∉ F) Hb H' → ∃ us A, SqT G.K H' a us ∧ RdsL G H' ds us A ∧ A.Sublist F) : ItOk G (Itt G.K a) ds F Hb where
  go := fun H i c hi => by
    obtain ⟨us, A, h1, h2, h3⟩ := h H c
    have hl := rdsL_len h2
    exact ⟨us, us[i], h1, List.getElem?_eq_getElem (by omega)⟩
  yl := fun H i x H' c hi ⟨e, hy⟩ => by
    subst e
    obtain ⟨us, A, h1, h2, h3⟩ := h H' c
    obtain ⟨y, B, h4, h5, h6⟩ := rdsL_get h2 (List.getElem?_eq_getElem hi)
    have e := hy us h1
    rw [h4] at e
    cases e
    exact ⟨Chg.refl _ _, _, B, List.getElem?_eq_getElem hi, h5, fun z hz => h3.subset (h6.subset hz)⟩
  st := fun H i c hi => by
    obtain ⟨us, A, h1, h2, h3⟩ := h H c
    exact ⟨us, h1, by rw [rdsL_len h2]; exact hi⟩
def iSeq (f : EF) : IF := fun E => match f E with
  | some (d, E') => (match d.items with
    | some ds => some (ds, E')
    | none => none)
  | none => none
theorem vi_seq (x : XOk G X) (he : VE G X e M k f) : VI G X tg e M k (iSeq f) := PI.imp (PI.or (pi_list he) (pi_tup he)) fun σ H R ⟨C, E, Fs, Rl, ds, E', e, q⟩ => by
  unfold iSeq at e
  split at e
  · rename_i d E1 e1
    split at e
    · rename_i ds' e2
      cases e
      rw [x.K]
      by_cases ht : ∃ es, d = .tup es
      · refine .inr ⟨C, E, Fs, Rl, d, E', e1, fun v H1 Fs1 F R1 s1 r1 k1 => ?_⟩
        obtain ⟨a, rfl, _, h2⟩ := seq_stays (H' := H1) e2 r1
        have h2 := h2 ht
        obtain ⟨us, A, h3, _⟩ := h2 H1 (Chg.refl _ _)
        exact ⟨a, rfl, ⟨us, h3⟩, q _ _ _ F R1 s1 (itOk_tup h2) (fun a ha => Rds.trk _ _ _ r1 a ha) k1.vw⟩
      · refine .inl ⟨C, E, Fs, Rl, d, E', e1, fun v H1 Fs1 F R1 s1 r1 k1 => ?_⟩
        obtain ⟨a, rfl, h2, _⟩ := seq_stays (H' := H1) e2 r1
        have h2 := h2 fun es z => ht ⟨es, z⟩
        obtain ⟨us, A, h3, _⟩ := h2 H1 (Chg.refl _ _)
        exact ⟨a, rfl, ⟨us, h3⟩, q _ _ _ F R1 s1 (itOk_list h2) (fun a ha => Rds.trk _ _ _ r1 a ha) k1.vw⟩
    · cases e
  · cases e
theorem itOk_range {Hb : Hp} (lo : Int) (n : Nat) : ItOk G (Itr lo n) ((List.range n).map fun (i : Nat) => D.int (lo + (i : Int))) [] Hb where
  go := fun H i c hi => show i < n by simpa using hi
  yl := fun H i x H' c hi ⟨e, hy⟩ => by
    subst e hy
    have hn : i < n := by simpa using hi
    refine ⟨Chg.refl _ _, D.int (lo + (i : Int)), [], ?_, hInt _ _ _, fun a ha => by cases ha⟩
    rw [List.getElem?_map, List.getElem?_range hn]
    rfl
  st := fun H i c hi => show n ≤ i by simpa using hi
def iRg (r : RF) : IF := fun E => match r E with
  | some (a, b, E') => if rgOk a b then some ((rgI a b).map .int, E') else none
  | none => none
theorem rgI_map (a b : Int) : (rgI a b).map D.int = (List.range (b - a).toNat).map fun (i : Nat) => D.int (a + (i : Int)) := by
  unfold rgI
  rw [List.map_map]
  rfl
theorem rgOk_of {a b : Int} (h : rgOk a b = true) : -(2 ^ 62) ≤ a ∧ a < 2 ^ 62 ∧ -(2 ^ 62) ≤ b ∧ b < 2 ^ 62 := by
  obtain ⟨h1, h2, h3, h4, _⟩ := sl_iff.mp h
  exact ⟨h1, h2, h3, h4⟩
theorem vi_range1 {a : Expr} {p pos : Pos} (hg : Gl X "range") (hm : X.mg "range" = none) (ha : VE G X a M k f) (hs : starEach [a] X.env = [(false, eval a X.env)] := by rfl) : VI G X tg (.Call (.Name "range" p) [a] [] pos) M .own (iRg (rg1 f)) :=
  PI.imp (pi_range1 hg hm (vl_cons ha vl_nil (safe_nil k) (by rw [hs]; rfl)) hs) fun σ H R ⟨C, E, Fs, Rl, ds, E', e, q⟩ => by
    unfold iRg at e
    split at e
    · rename_i a' b' E1 e1
      split at e
      · rename_i hr
        cases e
        unfold rg1 at e1
        split at e1
        · rename_i n E2 e2
          cases e1
          refine ⟨C, E, Fs, Rl, [.int b'], E', by unfold lCons lNil; rw [e2], fun vs H1 Fs1 FF R1 s1 a1 => ?_⟩
          obtain ⟨y, rfl, h1⟩ := rdsL1 a1.rds
          obtain ⟨rfl, _⟩ := rds_int.mp h1
          obtain ⟨h2, h3, h4, h5⟩ := rgOk_of hr
          refine ⟨b', rfl, h4, h5, q _ _ _ [] R1 (s1.mono fun i hi => by simpa using hi) ?_ (fun a ha => by cases ha) (fun a ha => by cases ha)⟩
          rw [rgI_map, Int.sub_zero]
          exact itOk_range 0 b'.toNat
        · cases e1
      · cases e
    · cases e
def enumD (i : Nat) : List D → List D
  | [] => []
  | d :: ds => .tup [.int (i : Int), d] :: enumD (i + 1) ds
theorem enumD_len : ∀ {ds : List D} {i : Nat}, (enumD i ds).length = ds.length
  | [], _ => rfl
  | d :: ds, i => by
    rw [enumD, List.length_cons, List.length_cons, enumD_len]
theorem enumD_get : ∀ {ds : List D} {i j : Nat} {d : D}, ds[j]? = some d → (enumD i ds)[j]? = some (.tup [.int ((i + j : Nat) : Int), d])
  | [], _, _, _, e => by simp at e
  | d' :: ds, i, 0, d, e => by
    simp at e
    subst e
    rfl
  | d' :: ds, i, j + 1, d, e => by
    rw [enumD, List.getElem?_cons_succ, enumD_get (by simpa using e)]
    rw [show i + 1 + j = i + (j + 1) by omega]
theorem itOk_pairs {J : It} {Hb : Hp} {ds es : List D} {F : List Addr} (hl : es.length = ds.length) (go : ∀ H i, Chg (fun a => a ∉ F) Hb H → i < ds.length → J.go i H)
    (yl : ∀ H i v H', Chg (fun a => a ∉ F) Hb H → i < ds.length → J.yld i H v H' → ∃ T xs d A, v = .ref T ∧ H T = none ∧ H' = upd H T (.tup xs) ∧ es[i]? = some (.tup d) ∧ RdsL G H d xs A ∧ ∀ a ∈ A, a ∈ F)
    (st : ∀ H i, Chg (fun a => a ∉ F) Hb H → ds.length ≤ i → J.stop i H) : ItOk G J es F Hb where
  go := fun H i c hi => go H i c (by omega)
  yl := fun H i v H' c hi h => by
    obtain ⟨T, xs, d, A, rfl, hT, rfl, he, hr, hA⟩ := yl H i v H' c (by omega) h
    have c' : Chg No H (upd H T (.tup xs)) := Chg.new hT
    exact ⟨c', _, A, he, rds_tup.mpr ⟨T, xs, rfl, SqT.of upd_same, RdsL.chg c' _ _ _ (fun _ _ z => z) hr⟩, hA⟩
  st := fun H i c hi => st H i c (by omega)
def iEnm (f : EF) : IF := fun E => match f E with
  | some (d, E') => (match d.items with
    | some ds => some (enumD 0 ds, E')
    | none => none)
  | none => none
theorem vi_enum (x : XOk G X) {p pos tpos : Pos} {elts : List Expr} {kk : Nat} (hg : Gl X "enumerate") (hm : X.mg "enumerate" = none) (he : VE G X e M k f) (hs : starEach [e] X.env = [(false, eval e X.env)] := by rfl) : VI G X (.Tuple elts kk tpos) (.Call (.Name "enumerate" p) [e] [] pos) M k (iEnm f) :=
  PI.imp (PI.or (pi_enum hg hm (vl_cons he vl_nil (safe_nil k) (by rw [hs]; rfl)) hs) (_root_.TA.pi_enumT hg hm (vl_cons he vl_nil (safe_nil k) (by rw [hs]; rfl)) hs)) fun σ H R ⟨C, E, Fs, Rl, ds, E', e, q⟩ => by
    unfold iEnm at e
    split at e
    · rename_i d E1 e1
      split at e
      · rename_i ds' e2
        cases e
        rw [x.K]
        by_cases ht : ∃ es, d = .tup es
        · refine .inr ⟨C, E, Fs, Rl, [d], E', by unfold lCons lNil; rw [e1], fun vs H1 Fs1 FF R1 s1 a1 => ?_⟩
          obtain ⟨d1, ds1, v, vs1, F, FF', hd, rfl, rfl, r1, k1, _, hr⟩ := a1
          cases hd
          obtain ⟨_, rfl, rfl⟩ := hr
          obtain ⟨a, rfl, _, h2⟩ := seq_stays (H' := H1) e2 r1
          have h2 := h2 ht
          obtain ⟨us, A, h3, _⟩ := h2 H1 (Chg.refl _ _)
          refine ⟨a, us, rfl, h3, q _ _ _ F R1 (s1.mono fun i hi => by simpa using hi) (itOk_pairs enumD_len (fun H i c hi => ?_) (fun H i v H' c hi hy => ?_) fun H i c hi => ?_) (fun a ha => Rds.trk _ _ _ r1 a ha) k1.vw⟩
          · obtain ⟨us, A, h4, h5, _⟩ := h2 H c
            have hl := rdsL_len h5
            exact ⟨us, us[i], h4, List.getElem?_eq_getElem (by omega)⟩
          · obtain ⟨T, y, rfl, hT, rfl, hx⟩ := hy
            obtain ⟨us, A, h4, h5, h6⟩ := h2 H c
            obtain ⟨z, B, h7, h8, h9⟩ := rdsL_get h5 (List.getElem?_eq_getElem hi)
            have e3 := hx us h4
            rw [h7] at e3
            cases e3
            refine ⟨T, _, _, B, rfl, hT, rfl, by rw [enumD_get (List.getElem?_eq_getElem hi), Nat.zero_add], ?_, fun a ha => h6.subset (h9.subset ha)⟩
            exact rdsL_cons.mpr ⟨_, _, [], B, rfl, rfl, hInt _ _ _, rdsL_cons.mpr ⟨_, _, B, [], rfl, by simp, h8, rdsL_nil.mpr ⟨rfl, rfl⟩⟩⟩
          · obtain ⟨us, A, h4, h5, _⟩ := h2 H c
            exact ⟨us, h4, by rw [rdsL_len h5]; exact hi⟩
        · refine .inl ⟨C, E, Fs, Rl, [d], E', by unfold lCons lNil; rw [e1], fun vs H1 Fs1 FF R1 s1 a1 => ?_⟩
          obtain ⟨d1, ds1, v, vs1, F, FF', hd, rfl, rfl, r1, k1, _, hr⟩ := a1
          cases hd
          obtain ⟨_, rfl, rfl⟩ := hr
          obtain ⟨a, rfl, h2, _⟩ := seq_stays (H' := H1) e2 r1
          have h2 := h2 fun es z => ht ⟨es, z⟩
          obtain ⟨us, A, h3, _⟩ := h2 H1 (Chg.refl _ _)
          refine ⟨a, us, rfl, h3, q _ _ _ F R1 (s1.mono fun i hi => by simpa using hi) (itOk_pairs enumD_len (fun H i c hi => ?_) (fun H i v H' c hi hy => ?_) fun H i c hi => ?_) (fun a ha => Rds.trk _ _ _ r1 a ha) k1.vw⟩
          · obtain ⟨us, A, h4, h5, _⟩ := h2 H c
            have hl := rdsL_len h5
            exact ⟨us, us[i], h4, List.getElem?_eq_getElem (by omega)⟩
          · obtain ⟨T, y, rfl, hT, rfl, hx⟩ := hy
            obtain ⟨us, A, h4, h5, h6⟩ := h2 H c
            obtain ⟨z, B, h7, h8, h9⟩ := rdsL_get h5 (List.getElem?_eq_getElem hi)
            have e3 := hx us h4
            rw [h7] at e3
            cases e3
            refine ⟨T, _, _, B, rfl, hT, rfl, by rw [enumD_get (List.getElem?_eq_getElem hi), Nat.zero_add], ?_, fun a ha => h6.subset (h9.subset ha)⟩
            exact rdsL_cons.mpr ⟨_, _, [], B, rfl, rfl, hInt _ _ _, rdsL_cons.mpr ⟨_, _, B, [], rfl, by simp, h8, rdsL_nil.mpr ⟨rfl, rfl⟩⟩⟩
          · obtain ⟨us, A, h4, h5, _⟩ := h2 H c
            exact ⟨us, h4, by rw [rdsL_len h5]; exact hi⟩
      · cases e
    · cases e
end
end
end VL
set_option maxHeartbeats 4000000
namespace VL
noncomputable section
open PySem PySem.Spec PyProof.Rows L2
open GxR (TabB Tabbed)
variable [LamT]
abbrev FD := List D → Option (D × List D)
structure ArgIn (G : Gb) (H : Hp) (J : List Nat) (ds : List D) (vs : List V) (FA : Nat → List Addr) : Prop where
  len : vs.length = ds.length
  rd : ∀ j d, ds[j]? = some d → ∃ v, vs[j]? = some v ∧ Rds G H d v (FA j)
  io : ∀ j ∈ J, j < ds.length → (FA j).Nodup ∧ ∀ i, i ≠ j → i < ds.length → ∀ a ∈ FA j, a ∉ FA i
structure ArgOut (G : Gb) (H H' : Hp) (J : List Nat) (ds' : List D) (vs : List V) (FA FA' : Nat → List Addr) (A : List Addr) : Prop where
  rd : ∀ (x : Nat) (j : Nat), J[x]? = some j → ∃ d v, ds'[x]? = some d ∧ vs[j]? = some v ∧ Rds G H' d v (FA' j) ∧ (FA' j).Nodup ∧ (∀ a ∈ FA' j, a ∈ FA j ∨ H a = none) ∧ (∀ a ∈ A, a ∉ FA' j) ∧ ∀ i ∈ J, i ≠ j → ∀ a ∈ FA' j, a ∉ FA' i
def spV (G : Gb) (J : List Nat) (ro : Bool) (n : Nat) (F : FD) : Sp := fun vs H Q _ => ∃ ds FA, vs.length = n ∧ ArgIn G H J ds vs FA ∧ (∀ T ∈ G.tabs, TabG H T) ∧ ∃ d ds', F ds = some (d, ds') ∧
  ∀ v H' A FA', Rds G H' d v A → (ro = true → A.Nodup) → (∀ a ∈ A, H a = none) → ArgOut G H H' J ds' vs FA FA' A → Chg (fun q => ∃ j ∈ J, q ∈ FA j) H H' → Q v H'
def startE (N : Nat) (J : List Nat) (ds : List D) : Env := (ds.mapIdx fun j d => some (if J.contains j then Mode.io else Mode.arg, d)) ++ List.replicate (N - ds.length) none
def ioGet (E : Env) (j : Nat) : Option D := match E[j]? with
  | some (some (.io, d)) => some d
  | _ => none
def ioOut (E : Env) : List Nat → Option (List D)
  | [] => some []
  | j :: J => match ioGet E j, ioOut E J with
    | some d, some ds => some (d :: ds)
    | _, _ => none
def callD (S : SF) (N : Nat) (J : List Nat) : FD := fun ds => match S (startE N J ds) with
  | some (.rt d E) => (match ioOut E J with
    | some ds' => some (d, ds')
    | none => none)
  | some (.nx E) => (match ioOut E J with
    | some ds' => some (.non, ds')
    | none => none)
  | _ => none
theorem ioGet_some {E : Env} {j : Nat} {d : D} (h : ioGet E j = some d) : E[j]? = some (some (.io, d)) := by
  unfold ioGet at h
  split at h
  · rename_i d' e
    cases h
    exact e
  · cases h
theorem ioOut_get {E : Env} : ∀ {J : List Nat} {ds : List D} {x j : Nat}, ioOut E J = some ds → J[x]? = some j → ∃ d, ds[x]? = some d ∧ E[j]? = some (some (.io, d))
  | [], _, x, j, _, e => by simp at e
  | j' :: J, ds, x, j, h, e => by
    unfold ioOut at h
    split at h
    · rename_i d ds' h1 h2
      cases h
      cases x with
      | zero =>
        simp at e
        subst e
        exact ⟨d, rfl, ioGet_some h1⟩
      | succ x =>
        obtain ⟨d', h3, h4⟩ := ioOut_get h2 (show J[x]? = some j by simpa using e)
        exact ⟨d', by simpa using h3, h4⟩
    · cases h
theorem startE_len {N : Nat} {J : List Nat} {ds : List D} (h : ds.length ≤ N) : (startE N J ds).length = N := by
  unfold startE
  rw [List.length_append, List.length_mapIdx, List.length_replicate]
  omega
theorem startE_get {N : Nat} {J : List Nat} {ds : List D} {i : Nat} {m : Mode} {d : D} (e : (startE N J ds)[i]? = some (some (m, d))) : ds[i]? = some d ∧ ((m = .io ∧ i ∈ J) ∨ m = .arg) := by
  unfold startE at e
  by_cases hi : i < ds.length
  · rw [List.getElem?_append_left (by rw [List.length_mapIdx]; exact hi), List.getElem?_mapIdx, List.getElem?_eq_getElem hi] at e
    simp only [Option.map_some, Option.some.injEq, Prod.mk.injEq] at e
    obtain ⟨e1, e2⟩ := e
    refine ⟨by rw [← e2]; exact List.getElem?_eq_getElem hi, ?_⟩
    by_cases hJ : J.contains i = true
    · rw [if_pos hJ] at e1
      exact .inl ⟨e1.symm, by simpa using hJ⟩
    · rw [if_neg hJ] at e1
      exact .inr e1.symm
  · rw [List.getElem?_append_right (by rw [List.length_mapIdx]; omega), List.getElem?_replicate] at e
    split at e
    · cases e
    · cases e
section
variable {P : Program} {w : World} {G : Gb} {mg : Str → Option Value} {b0 : Heap}
theorem post_call {J : List Nat} {ro : Bool} {n : Nat} {S : SF} {N : List Str} {vs : List V} {H : Hp} {Q : VK} {E : XK} (hn : n ≤ N.length) (hJ : J.all (fun j => decide (j < n)) = true) (h : spV G J ro n (callD S N.length J) vs H Q E) :
    tVS G ro S { nx := fun _ H' => Q .non H', rt := Q } (start N vs) H := by
  obtain ⟨ds, FA, hl, ai, tb, d, ds', eF, q⟩ := h
  have hds : ds.length = n := by rw [← ai.len]; exact hl
  have jn : ∀ j ∈ J, j < ds.length := fun j hj => by
    have := of_decide_eq_true (List.all_eq_true.mp hJ j hj)
    omega
  let C : Ctx := ⟨H, fun i a => i ∈ J ∧ a ∈ FA i, fun _ => False, H, fun j => (vs[j]?).getD .non⟩
  have R : Rel G C H (start N vs) (startE N.length J ds) FA := by
    refine ⟨?_, fun i m d' e => ?_, fun i m d' e hw => ?_, fun i m d' e => ?_, Chg.refl _ _, Chg.refl _ _, fun q z => z.elim, tb⟩
    · rw [startE_len (by omega)]
      unfold L2.start
      rw [List.length_append, List.length_map, List.length_replicate, hl]
      omega
    · obtain ⟨h1, h2⟩ := startE_get e
      obtain ⟨v, h3, h4⟩ := ai.rd i d' h1
      refine ⟨v, ?_, h4, fun _ => ?_⟩
      · unfold L2.start
        rw [List.getElem?_append_left (by rw [List.length_map]; exact (List.getElem?_eq_some_iff.mp h3).1), List.getElem?_map, h3]
        rfl
      · show v = (vs[i]?).getD .non
        rw [h3]
        rfl
    · obtain ⟨h1, h2⟩ := startE_get e
      rcases h2 with ⟨rfl, h2⟩ | rfl
      · obtain ⟨h3, h4⟩ := ai.io i h2 (jn i h2)
        refine ⟨h3, fun a _ z => z, fun j m' d2 hj e2 => h4 j hj ?_⟩
        exact (List.getElem?_eq_some_iff.mp (startE_get e2).1).1
      · cases hw
    · obtain ⟨h1, h2⟩ := startE_get e
      rcases h2 with ⟨rfl, h2⟩ | rfl
      · exact ⟨fun z => (by cases z), fun _ a ha => .inl ⟨h2, ha⟩⟩
      · exact ⟨fun z => (by cases z), fun z => (by cases z)⟩
  have fin : ∀ {v : V} {σ' : L2.St} {H' : Hp} {E' : Env} {Fs : Nat → List Addr} {F' : List Addr} {d2 : D}, ioOut E' J = some ds' → d2 = d → Rel G C H' σ' E' Fs → Rds G H' d2 v F' → RetOk ro C E' Fs F' → Q v H' := fun {v σ' H' E' Fs F' d2} eo ed R' rd ret => by
    subst ed
    refine q v H' F' Fs rd ret.1 (fun a ha => (ret.2 a ha).1) ⟨fun x j hj => ?_⟩ (R'.fr.mono fun q o e ⟨i, hi, ha⟩ => ⟨i, hi, ha⟩)
    have hj' : j ∈ J := List.mem_of_getElem? hj
    obtain ⟨d3, h1, h2⟩ := ioOut_get eo hj
    obtain ⟨v3, h3, h4, h5⟩ := R'.rd j _ _ h2
    obtain ⟨h6, h7, h8⟩ := R'.nd j _ _ h2 rfl
    have hjl : j < vs.length := by rw [ai.len]; exact jn j hj'
    refine ⟨d3, v3, h1, ?_, h4, h6, fun a ha => ?_, fun a ha => (ret.2 a ha).2 j _ h2, fun i hi hij => ?_⟩
    · rw [h5 rfl]
      show vs[j]? = some ((vs[j]?).getD .non)
      rw [List.getElem?_eq_getElem hjl]
      rfl
    · rcases (R'.nw j _ _ h2).2 rfl a ha with z | z
      · exact .inl z.2
      · exact .inr z
    · obtain ⟨x', hx', ex⟩ := List.mem_iff_getElem.mp hi
      obtain ⟨d4, _, h9⟩ := ioOut_get eo (show J[x']? = some i by rw [← ex]; exact List.getElem?_eq_getElem hx')
      exact h8 i _ _ hij h9
  unfold callD at eF
  split at eF
  · rename_i d1 E1 e1
    split at eF
    · rename_i ds1 e2
      cases eF
      exact ⟨C, _, FA, R, _, e1, fun v σ' H' Fs F' R' rd ret => fin e2 rfl R' rd ret⟩
    · cases eF
  · rename_i E1 e1
    split at eF
    · rename_i ds1 e2
      cases eF
      exact ⟨C, _, FA, R, _, e1, fun σ' H' Fs R' => fin e2 rfl R' (rds_non.mpr ⟨rfl, rfl⟩) ⟨fun _ => List.nodup_nil, fun a ha => by cases ha⟩⟩
    · cases eF
  · cases eF
theorem spV_len {J : List Nat} {ro : Bool} {n : Nat} {F : FD} : ∀ vs H Q E, spV G J ro n F vs H Q E → vs.length = n := fun vs H Q E ⟨_, _, h, _⟩ => h
theorem fnV {x qu : Str} {st : Stmt} {f : Addr} {fd : FuncData} {N ps : List Str} {k : Nat} {J : List Nat} {ro : Bool} {S : SF} (F : Fun G.K x qu st f fd) (Sc : FnScope N ps (defScope st)) (hn : ps.length ≤ N.length) (hJ : J.all (fun j => decide (j < ps.length)) = true)
    (hb : ∀ (cd : Value) (B : Around) (ou : List PySem.Env) (s : Shared) (H : Hp) (E : XK), XOk G (cxOf CX0 P w G.K mg b0 N qu (defScope st) f cd B ou s H E).nox → (B.deeper (envOfC qu (defScope st) s.heap.objs.size f cd)).guards = some [] → Room k (B.deeper (envOfC qu (defScope st) s.heap.objs.size f cd)) →
      VSs G (cxOf CX0 P w G.K mg b0 N qu (defScope st) f cd B ou s H E).nox ro (defBody st) S) :
    TA.FnG P w G.K mg b0 CX0 (k + 1) f fd ps (spV G J ro ps.length (callD S N.length J)) :=
  TA.FunG.ok F Sc spV_len fun cd B ou s H vs Q E hg hr h => ⟨_, hb cd B ou s H E ⟨rfl, rfl, show (B.deeper (envOfC qu (defScope st) s.heap.objs.size f cd)).units + 70 < cLine by have := hr.un; omega⟩ hg hr, post_call hn hJ h⟩
end
def setD (E : Env) (i : Nat) (d : D) : Env := match E[i]? with
  | some (some (m, _)) => E.set i (some (m, d))
  | _ => E
def setIO (E : Env) : List Nat → List D → Env
  | i :: IO, d :: ds => setIO (setD E i d) IO ds
  | _, _ => E
def ioW (E : Env) (IO : List Nat) : Bool := IO.all fun i => match E[i]? with
  | some (some (m, _)) => m.w
  | _ => false
def eCall (F : FD) (IO : List Nat) (l : LF) : EF := fun E => match l E with
  | some (ds, E') => if ioW E' IO then (match F ds with
    | some (d, ds') => if ds'.length = IO.length then some (d, setIO E' IO ds') else none
    | none => none) else none
  | none => none
theorem setD_get_ne {E : Env} {i j : Nat} {d : D} (h : j ≠ i) : (setD E i d)[j]? = E[j]? := by
  unfold setD
  split
  · rw [List.getElem?_set_ne (Ne.symm h)]
  · rfl
theorem setD_get {E : Env} {i : Nat} {m : Mode} {d d' : D} (h : E[i]? = some (some (m, d))) : (setD E i d')[i]? = some (some (m, d')) := by
  unfold setD
  rw [h]
  exact List.getElem?_set_self (List.getElem?_eq_some_iff.mp h).1
theorem setD_len {E : Env} {i : Nat} {d : D} : (setD E i d).length = E.length := by
  unfold setD
  split
  · rw [List.length_set]
  · rfl
theorem setIO_len : ∀ {IO : List Nat} {ds : List D} {E : Env}, (setIO E IO ds).length = E.length
  | [], _, _ => rfl
  | _ :: _, [], _ => rfl
  | i :: IO, d :: ds, E => by rw [setIO, setIO_len, setD_len]
theorem setIO_out : ∀ {IO : List Nat} {ds : List D} {E : Env} {j : Nat}, j ∉ IO → (setIO E IO ds)[j]? = E[j]?
  | [], _, _, _, _ => rfl
  | _ :: _, [], _, _, _ => rfl
  | i :: IO, d :: ds, E, j, h => by
    rw [setIO, setIO_out fun z => h (List.mem_cons_of_mem _ z), setD_get_ne fun z => h (by rw [z]; exact List.mem_cons_self)]
theorem setIO_in : ∀ {IO : List Nat} {ds : List D} {E : Env} {x i : Nat} {m : Mode} {d d' : D}, IO.Nodup → IO[x]? = some i → ds[x]? = some d' → E[i]? = some (some (m, d)) → (setIO E IO ds)[i]? = some (some (m, d'))
  | [], _, _, x, i, _, _, _, _, e, _, _ => by simp at e
  | _ :: _, [], _, x, i, _, _, _, _, _, e, _ => by simp at e
  | j :: IO, d0 :: ds, E, x, i, m, d, d', nd, e1, e2, e3 => by
    rw [List.nodup_cons] at nd
    rw [setIO]
    cases x with
    | zero =>
      simp at e1 e2
      subst e1 e2
      rw [setIO_out nd.1]
      exact setD_get e3
    | succ x =>
      have hi : i ∈ IO := List.mem_of_getElem? (show IO[x]? = some i by simpa using e1)
      exact setIO_in nd.2 (by simpa using e1) (by simpa using e2) (by rw [setD_get_ne fun z => nd.1 (by rw [← z]; exact hi)]; exact e3)
def ioKinds (ks : List Kind) (J IO : List Nat) : Bool := (J.length == IO.length) && decide IO.Nodup && decide J.Nodup && ((J.zip IO).all fun p => decide (ks[p.1]? = some (Kind.ref p.2))) &&
  (ks.zipIdx.all fun p => J.contains p.2 || p.1.safe IO)
section
variable {G : Gb} {X : Cx} {k : Nat} {f : Addr} {fd : FuncData} {ps : List Str} {J IO : List Nat} {ro : Bool} {F : FD} {x : Str} {p pos : Pos} {e : Expr} {es : List Expr} {M : List Nat} {ks : List Kind} {l : LF}
theorem ArgsOk.all {σ : L2.St} {H H' : Hp} {E : Env} {Fs : Nat → List Addr} : ∀ {ks : List Kind} {ds : List D} {vs : List V} {FF : List (List Addr)}, ArgsOk G σ H H' E Fs ks ds vs FF → ds.length = ks.length ∧ vs.length = ks.length ∧ FF.length = ks.length ∧
    ∀ (j : Nat) (k : Kind), ks[j]? = some k → ∃ d v F, ds[j]? = some d ∧ vs[j]? = some v ∧ FF[j]? = some F ∧ Rds G H' d v F ∧ KOk σ H E Fs k d v F
  | [], _, _, _, h => by
    obtain ⟨rfl, rfl, rfl⟩ := h
    exact ⟨rfl, rfl, rfl, fun j k e => by simp at e⟩
  | k :: ks, _, _, _, h => by
    obtain ⟨d, ds', v, vs', F, FF', rfl, rfl, rfl, h4, h5, h6, h7⟩ := h
    obtain ⟨l1, l2, l3, h8⟩ := h7.all
    refine ⟨by simp [l1], by simp [l2], by simp [l3], fun j k' e => ?_⟩
    cases j with
    | zero =>
      simp at e
      subst e
      exact ⟨d, v, F, rfl, rfl, rfl, h4, h5⟩
    | succ j => simpa using h8 j k' (by simpa using e)
def kRet (ro : Bool) : Kind := if ro then .own else .vw []
theorem call_of {σ : L2.St} {H : Hp} {Q : VK} {E : XK} (hk : ioKinds ks J IO = true) (hn : ks.length = ps.length) (h : tV G (M ++ IO) (kRet ro) (eCall F IO l) σ H Q) : tVL G M ks l σ H fun vs H1 => spV G J ro ps.length F vs H1 Q E := by
  obtain ⟨C, E0, Fs, R, d, E', e, q⟩ := h
  unfold eCall at e
  split at e
  · rename_i ds E1 e1
    split at e
    · rename_i hw
      split at e
      · rename_i d' ds' eF
        split at e
        · rename_i hlen
          cases e
          refine ⟨C, E0, Fs, R, ds, E1, e1, fun vs H1 Fs1 FF R1 s1 a1 => ?_⟩
          unfold ioKinds at hk
          simp only [Bool.and_eq_true, beq_iff_eq, decide_eq_true_eq] at hk
          obtain ⟨⟨⟨⟨lJ, ndI⟩, ndJ⟩, hio⟩, hsf⟩ := hk
          obtain ⟨l1, l2, l3, all⟩ := a1.all
          have tr1 : ∀ {i m d a}, E1[i]? = some (some (m, d)) → a ∈ Fs1 i → ∃ o, H1 a = some o := fun {i m d a} e ha => by
            obtain ⟨v, _, r, _⟩ := R1.rd i m d e
            obtain ⟨o, eo, _⟩ := Rds.trk d v _ r a ha
            exact ⟨o, eo⟩
          have pos_ : ∀ {y j i : Nat}, J[y]? = some j → IO[y]? = some i → ks[j]? = some (Kind.ref i) := fun {y j i} e1 e2 => by
            have hm : (j, i) ∈ J.zip IO := List.mem_of_getElem? (i := y) (by rw [List.getElem?_zip_eq_some]; exact ⟨e1, e2⟩)
            exact of_decide_eq_true (List.all_eq_true.mp hio (j, i) hm)
          have key0 : ∀ {y j i : Nat}, J[y]? = some j → IO[y]? = some i → ∃ m dd v, E1[i]? = some (some (m, dd)) ∧ m.w = true ∧ σ[i]? = some (some v) ∧ vs[j]? = some v ∧ FF[j]? = some (Fs1 i) := fun {y j i} e1 e2 => by
            obtain ⟨dd, v, F', h1, h2, h3, h4, m, h5, h6, h7⟩ := all j _ (pos_ e1 e2)
            subst h7
            have hw' := List.all_eq_true.mp hw i (List.mem_of_getElem? e2)
            rw [h5] at hw'
            exact ⟨m, dd, v, h5, hw', h6, h2, h3⟩
          have ofJ : ∀ {j}, j ∈ J → ∃ y i, J[y]? = some j ∧ IO[y]? = some i := fun {j} hj => by
            obtain ⟨y, hy, ey⟩ := List.mem_iff_getElem.mp hj
            exact ⟨y, IO[y]'(by omega), by rw [← ey]; exact List.getElem?_eq_getElem hy, List.getElem?_eq_getElem _⟩
          have ofI : ∀ {i}, i ∈ IO → ∃ y j, J[y]? = some j ∧ IO[y]? = some i := fun {i} hi => by
            obtain ⟨y, hy, ey⟩ := List.mem_iff_getElem.mp hi
            exact ⟨y, J[y]'(by omega), List.getElem?_eq_getElem _, by rw [← ey]; exact List.getElem?_eq_getElem hy⟩
          have inj : ∀ {y y' : Nat} {j : Nat}, J[y]? = some j → J[y']? = some j → y = y' := fun {y y' j} e1 e2 => by
            obtain ⟨h1, e1⟩ := List.getElem?_eq_some_iff.mp e1
            obtain ⟨h2, e2⟩ := List.getElem?_eq_some_iff.mp e2
            exact (List.getElem_inj ndJ).mp (e1.trans e2.symm)
          have injI : ∀ {y y' : Nat} {j : Nat}, IO[y]? = some j → IO[y']? = some j → y = y' := fun {y y' j} e1 e2 => by
            obtain ⟨h1, e1⟩ := List.getElem?_eq_some_iff.mp e1
            obtain ⟨h2, e2⟩ := List.getElem?_eq_some_iff.mp e2
            exact (List.getElem_inj ndI).mp (e1.trans e2.symm)
          have fa : ∀ {j : Nat} {F' : List Addr}, FF[j]? = some F' → (FF[j]?).getD [] = F' := fun {j F'} e => by rw [e]; rfl
          refine ⟨ds, fun j => (FF[j]?).getD [], by rw [l2]; exact hn, ⟨by rw [l2, l1], fun j dj ej => ?_, fun j hj hjl => ?_⟩, R1.tb, d, ds', eF, fun v H3 A FA' rA ndA nwA ao c3 => ?_⟩
          · have hj : j < ks.length := by rw [← l1]; exact (List.getElem?_eq_some_iff.mp ej).1
            obtain ⟨dd, v, F', h1, h2, h3, h4, _⟩ := all j _ (List.getElem?_eq_getElem hj)
            rw [ej] at h1
            cases h1
            exact ⟨v, h2, by rw [fa h3]; exact h4⟩
          · obtain ⟨y, i, ey, ei⟩ := ofJ hj
            obtain ⟨m, dd, v, h1, h2, h3, h4, h5⟩ := key0 ey ei
            rw [fa h5]
            refine ⟨(R1.nd i m dd h1 h2).1, fun j' hj' hl' a ha hb => ?_⟩
            have hk' : j' < ks.length := by rw [← l1]; exact hl'
            obtain ⟨d2, v2, F2, g1, g2, g3, g4, g5⟩ := all j' _ (List.getElem?_eq_getElem hk')
            rw [fa g3] at hb
            by_cases hJ' : j' ∈ J
            · obtain ⟨y', i', ey', ei'⟩ := ofJ hJ'
              obtain ⟨m', dd', v', h1', h2', h3', h4', h5'⟩ := key0 ey' ei'
              rw [h5'] at g3
              cases g3
              refine (R1.nd i m dd h1 h2).2.2 i' m' dd' (fun z => ?_) h1' a ha hb
              subst z
              have := injI ei ei'
              subst this
              rw [ey] at ey'
              cases ey'
              exact hj' rfl
            · have hs : (ks[j']).safe IO = true := by
                have z := List.all_eq_true.mp hsf (ks[j'], j') (List.mk_mem_zipIdx_iff_getElem?.mpr (List.getElem?_eq_getElem hk'))
                rw [Bool.or_eq_true] at z
                rcases z with z | z
                · exact absurd (by simpa using z) hJ'
                · exact z
              exact Vw.apart R1 (Kind.safe_of hs) g5.vw a hb ⟨i, List.mem_of_getElem? ei, m, dd, h1, h2, ha⟩
          ·
            have key : ∀ {i}, i ∈ IO → ∃ y j d2 v2 m dd, IO[y]? = some i ∧ J[y]? = some j ∧ E1[i]? = some (some (m, dd)) ∧ m.w = true ∧ σ[i]? = some (some v2) ∧ ds'[y]? = some d2 ∧ Rds G H3 d2 v2 (FA' j) ∧ (FA' j).Nodup ∧ (∀ a ∈ FA' j, a ∈ Fs1 i ∨ H1 a = none) ∧ (∀ a ∈ A, a ∉ FA' j) ∧ ∀ i ∈ J, i ≠ j → ∀ a ∈ FA' j, a ∉ FA' i := fun {i} hi => by
              obtain ⟨y, j, ey, ei⟩ := ofI hi
              obtain ⟨m, dd, v2, h1, h2, h3, h4, h5⟩ := key0 ey ei
              obtain ⟨d2, v3, g1, g2, g3, g4, g5, g6, g7⟩ := ao.rd y j ey
              rw [h4] at g2
              cases g2
              rw [fa h5] at g5
              exact ⟨y, j, d2, v2, m, dd, ei, ey, h1, h2, h3, g1, g3, g4, g5, g6, g7⟩
            let Fs3 : Nat → List Addr := fun i => if i ∈ IO then FA' ((J[IO.idxOf i]?).getD 0) else Fs1 i
            have f3in : ∀ {i y j}, IO[y]? = some i → J[y]? = some j → Fs3 i = FA' j := fun {i y j} ei ej => by
              have hi : i ∈ IO := List.mem_of_getElem? ei
              have e0 : IO.idxOf i = y := injI (by rw [List.getElem?_eq_getElem (List.idxOf_lt_length_iff.mpr hi), List.getElem_idxOf]) ei
              show (if i ∈ IO then FA' ((J[IO.idxOf i]?).getD 0) else Fs1 i) = _
              rw [if_pos hi, e0, ej]
              rfl
            have f3out : ∀ {i}, i ∉ IO → Fs3 i = Fs1 i := fun {i} hi => if_neg hi
            have ioQ : ∀ q, (∃ j ∈ J, q ∈ (FF[j]?).getD []) → ∃ i ∈ IO, ∃ m dd, E1[i]? = some (some (m, dd)) ∧ m.w = true ∧ q ∈ Fs1 i := fun q ⟨j, hj, hq⟩ => by
              obtain ⟨y, i, ey, ei⟩ := ofJ hj
              obtain ⟨m, dd, v2, h1, h2, h3, h4, h5⟩ := key0 ey ei
              rw [fa h5] at hq
              exact ⟨i, List.mem_of_getElem? ei, m, dd, h1, h2, hq⟩
            have s3 : Stp IO H1 H3 E1 (setIO E1 IO ds') Fs1 Fs3 := by
              refine ⟨c3.mono fun q o _ h => ioQ q h, fun i hi => f3out hi, fun i a ha => ?_, fun i hi => setIO_out hi, fun i => ?_⟩
              · by_cases hi : i ∈ IO
                · obtain ⟨y, j, d2, v2, m, dd, ei, ey, h1, h2, h3, h4, h5, h6, h7, _⟩ := key hi
                  rw [f3in ei ey] at ha
                  exact h7 a ha
                · rw [f3out hi] at ha
                  exact .inl ha
              · by_cases hi : i ∈ IO
                · obtain ⟨y, j, d2, v2, m, dd, ei, ey, h1, h2, h3, h4, _⟩ := key hi
                  have e3 := setIO_in ndI ei h4 h1
                  rw [e3, h1]
                  exact ⟨fun m' d' e => by cases e; exact ⟨_, rfl⟩, fun m' d' e => by cases e; exact ⟨_, rfl⟩⟩
                · rw [setIO_out hi]
                  exact ⟨fun m' d' e => ⟨d', e⟩, fun m' d' e => ⟨d', e⟩⟩
            have R3 : Rel G C H3 σ (setIO E1 IO ds') Fs3 := by
              refine ⟨by rw [setIO_len]; exact R1.len, fun i m' d2' e => ?_, fun i m' d2' e hw' => ?_, fun i m' d2' e => ?_, ?_, ?_, R1.pt, fun T hT => c3.tab (R1.tb T hT)⟩
              · by_cases hi : i ∈ IO
                · obtain ⟨y, j, d2, v2, m, dd, ei, ey, h1, h2, h3, h4, h5, _⟩ := key hi
                  rw [setIO_in ndI ei h4 h1] at e
                  cases e
                  refine ⟨v2, h3, by rw [f3in ei ey]; exact h5, fun z => ?_⟩
                  obtain ⟨v4, g1, _, g2⟩ := R1.rd i _ _ h1
                  rw [h3] at g1
                  cases g1
                  exact g2 z
                · rw [setIO_out hi] at e
                  obtain ⟨v4, g1, g2, g3⟩ := R1.rd i _ _ e
                  have ap : ∀ a ∈ Fs1 i, ¬ ∃ j ∈ J, a ∈ (FF[j]?).getD [] := fun a ha h => by
                    obtain ⟨i', hi', m, dd, h1, h2, h3⟩ := ioQ a h
                    exact (R1.nd i' m dd h1 h2).2.2 i _ _ (fun z => hi (by rw [z]; exact hi')) e a h3 ha
                  exact ⟨v4, g1, by rw [f3out hi]; exact Rds.chg c3 _ _ _ ap g2, g3⟩
              · by_cases hi : i ∈ IO
                · obtain ⟨y, j, d2, v2, m, dd, ei, ey, h1, h2, h3, h4, h5, h6, h7, h8, h9⟩ := key hi
                  rw [f3in ei ey]
                  obtain ⟨g1, g2, g3⟩ := R1.nd i m dd h1 h2
                  refine ⟨h6, fun a ha hT => ?_, fun j' mj dj hj' ej a ha hb => ?_⟩
                  · rcases h7 a ha with z | z
                    · exact g2 a z hT
                    · exact (R1.hn a z).2 hT
                  · by_cases hj2 : j' ∈ IO
                    · obtain ⟨y', j2, d3, v3, m3, dd3, ei', ey', _⟩ := key hj2
                      rw [f3in ei' ey'] at hb
                      refine h9 j2 (List.mem_of_getElem? ey') (fun z => ?_) a ha hb
                      subst z
                      have := inj ey ey'
                      subst this
                      rw [ei] at ei'
                      cases ei'
                      exact hj' rfl
                    · rw [setIO_out hj2] at ej
                      rw [f3out hj2] at hb
                      rcases h7 a ha with z | z
                      · exact g3 j' mj dj hj' ej a z hb
                      · obtain ⟨o, eo⟩ := tr1 ej hb
                        rw [z] at eo
                        cases eo
                · rw [setIO_out hi] at e
                  rw [f3out hi]
                  obtain ⟨g1, g2, g3⟩ := R1.nd i _ _ e hw'
                  refine ⟨g1, g2, fun j' mj dj hj' ej a ha hb => ?_⟩
                  by_cases hj2 : j' ∈ IO
                  · obtain ⟨y', j2, d3, v3, m3, dd3, ei', ey', k1, k2, k3, k4, k5, k6, k7, _⟩ := key hj2
                    rw [f3in ei' ey'] at hb
                    rcases k7 a hb with z | z
                    · exact g3 j' _ _ hj' k1 a ha z
                    · obtain ⟨o, eo⟩ := tr1 e ha
                      rw [z] at eo
                      cases eo
                  · rw [setIO_out hj2] at ej
                    rw [f3out hj2] at hb
                    exact g3 j' _ _ hj' ej a ha hb
              · by_cases hi : i ∈ IO
                · obtain ⟨y, j, d2, v2, m, dd, ei, ey, h1, h2, h3, h4, h5, h6, h7, h8, h9⟩ := key hi
                  rw [setIO_in ndI ei h4 h1] at e
                  cases e
                  obtain ⟨g1, g2⟩ := R1.nw i _ _ h1
                  rw [f3in ei ey]
                  refine ⟨fun z a ha => ?_, fun z a ha => ?_⟩
                  · rcases h7 a ha with y' | y'
                    · exact g1 z a y'
                    · exact (R1.hn a y').1
                  · rcases h7 a ha with y' | y'
                    · exact g2 z a y'
                    · exact .inr (R1.hn a y').1
                · rw [setIO_out hi] at e
                  rw [f3out hi]
                  exact R1.nw i _ _ e
              · refine (R1.fr.trans c3).mono fun q o e h => ?_
                rcases h with h | h
                · exact h
                · obtain ⟨i, hi, m, dd, h1, h2, h3⟩ := ioQ q h
                  obtain ⟨g1, g2⟩ := R1.nw i _ _ h1
                  cases m with
                  | own =>
                    rw [g1 rfl q h3] at e
                    cases e
                  | io =>
                    rcases g2 rfl q h3 with z | z
                    · exact ⟨i, z⟩
                    · rw [z] at e
                      cases e
                  | arg => cases h2
                  | shr => cases h2
              · refine (R1.pr.trans c3).mono fun q o e h => ?_
                rcases h with h | h
                · exact h
                · obtain ⟨i, hi, m, dd, h1, h2, h3⟩ := ioQ q h
                  exact (R1.nd i m dd h1 h2).2.1 q h3
            have st := s1.trans s3
            have lo : ∀ a ∈ A, Loose H (setIO E1 IO ds') Fs3 a := fun a ha => ⟨s1.chg.back (nwA a ha), fun i ⟨m', d2', e⟩ hm => by
              by_cases hi : i ∈ IO
              · obtain ⟨y, j, d2, v2, m, dd, ei, ey, h1, h2, h3, h4, h5, h6, h7, h8, h9⟩ := key hi
                rw [f3in ei ey] at hm
                exact h8 a ha hm
              · rw [setIO_out hi] at e
                rw [f3out hi] at hm
                obtain ⟨o, eo⟩ := tr1 e hm
                rw [nwA a ha] at eo
                cases eo⟩
            refine q v H3 Fs3 A R3 st rA ?_
            cases ro with
            | true => exact ⟨ndA rfl, fun a ha => .inr (lo a ha)⟩
            | false => exact fun a ha => .inr (lo a ha)
        · cases e
      · cases e
    · cases e
  · cases e
theorem ve_call (F0 : TA.FnG X.prog X.w X.K X.mg X.base CX0 k f fd ps (spV G J ro ps.length F)) (hg : X.A.guards = some []) (hr : Room k X.A) (hgl : Gl X x) (hm : X.mg x = some (.ref f)) (hkp : PySem.W.keepIn X.K (.ref f) = true)
    (hb : Binds X.K fd ps []) {E : XK} (hx : Passes CX0 X E) (IO : List Nat) (ha : VL G X (e :: es) M ks l) (hk : ioKinds ks J IO = true := by rfl) (hn : ks.length = ps.length := by rfl)
    (hdb : (x == ("__debug__" : Str)) = false := by decide) (he : starEach (e :: es) X.env = (false, eval e X.env) :: starEach es X.env := by rfl) (hpl : (backTo pos (starEach es X.env)).any (·.1) = false := by rfl) :
    VE G X (.Call (.Name x p) (e :: es) [] pos) (M ++ IO) (kRet ro) (eCall F IO l) :=
  PE.imp (TA.pe_callG F0 hg hr hgl hm hkp hb .nil hx ha hdb he hpl) fun σ H Q h => (call_of (E := E) hk hn h).mono fun vs H1 q => by rw [List.append_nil]; exact q
theorem ve_ref {i : Nat} {e : Expr} (h : PE X e (tVar i)) : VE G X e [] (.ref i) (eVar i) := PE.imp h fun σ H Q ⟨C, E, Fs, R, d, E', e, q⟩ => by
  unfold eVar at e
  split at e
  · rename_i m d' e1
    cases e
    obtain ⟨v, h1, h2, _⟩ := R.rd i m _ e1
    exact ⟨v, h1, q v H Fs _ R Stp.refl h2 ⟨m, e1, h1, rfl⟩⟩
  · cases e
end
end
end VL
set_option maxHeartbeats 4000000
namespace VL
noncomputable section
open PySem PySem.Spec PyProof.Rows L2
open GxR (TabB Tabbed)
variable [LamT]
def wipeE (E : Env) : List Nat → Env
  | [] => E
  | v :: vs => (wipeE E vs).set v none
def setM (E1 E2 : Env) (M : List Nat) : Env := M.foldl (fun E i => E.set i ((E2[i]?).getD none)) E1
theorem wipeE_len {E : Env} : ∀ {vs : List Nat}, (wipeE E vs).length = E.length
  | [] => rfl
  | v :: vs => by rw [wipeE, List.length_set, wipeE_len]
theorem wipeE_out {E : Env} {i : Nat} : ∀ {vs : List Nat}, i ∉ vs → (wipeE E vs)[i]? = E[i]?
  | [], _ => rfl
  | v :: vs, h => by
    rw [wipeE, List.getElem?_set_ne (fun z => h (by rw [z]; exact List.mem_cons_self)), wipeE_out fun z => h (List.mem_cons_of_mem _ z)]
theorem wipeE_in {E : Env} {i : Nat} : ∀ {vs : List Nat}, i ∈ vs → i < E.length → (wipeE E vs)[i]? = some none
  | v :: vs, h, hl => by
    rw [wipeE]
    by_cases e : v = i
    · subst e
      exact List.getElem?_set_self (by rw [wipeE_len]; exact hl)
    · rw [List.getElem?_set_ne e]
      exact wipeE_in ((List.mem_cons.mp h).elim (fun z => absurd z.symm e) id) hl
theorem wipeE_some {E : Env} {i : Nat} {vs : List Nat} {x : Mode × D} (h : (wipeE E vs)[i]? = some (some x)) : E[i]? = some (some x) ∧ i ∉ vs := by
  by_cases hi : i ∈ vs
  · by_cases hl : i < E.length
    · rw [wipeE_in hi hl] at h
      cases h
    · rw [List.getElem?_eq_none (by rw [wipeE_len]; omega)] at h
      cases h
  · rw [wipeE_out hi] at h
    exact ⟨h, hi⟩
theorem setM_len {E2 : Env} : ∀ {M : List Nat} {E1 : Env}, (setM E1 E2 M).length = E1.length
  | [], _ => rfl
  | i :: M, E1 => by
    show (setM (E1.set i _) E2 M).length = _
    rw [setM_len, List.length_set]
theorem setM_out {E2 : Env} {i : Nat} : ∀ {M : List Nat} {E1 : Env}, i ∉ M → (setM E1 E2 M)[i]? = E1[i]?
  | [], _, _ => rfl
  | j :: M, E1, h => by
    show (setM (E1.set j _) E2 M)[i]? = _
    rw [setM_out fun z => h (List.mem_cons_of_mem _ z), List.getElem?_set_ne fun z => h (by rw [z]; exact List.mem_cons_self)]
theorem setM_in {E2 : Env} {i : Nat} : ∀ {M : List Nat} {E1 : Env}, i ∈ M → i < E1.length → (setM E1 E2 M)[i]? = some ((E2[i]?).getD none)
  | j :: M, E1, h, hl => by
    show (setM (E1.set j _) E2 M)[i]? = _
    by_cases hi : i ∈ M
    · exact setM_in hi (by rw [List.length_set]; exact hl)
    · have e : i = j := (List.mem_cons.mp h).elim id fun z => absurd z hi
      subst e
      rw [setM_out hi, List.getElem?_set_self hl]
theorem frz1_out {E : Env} {i j : Nat} (h : i ≠ j) : (frz1 E j)[i]? = E[i]? := by
  unfold frz1
  split
  · exact List.getElem?_set_ne (Ne.symm h)
  · rfl
theorem freeze_out {i : Nat} : ∀ {S : List Nat} {E : Env}, i ∉ S → (freeze E S)[i]? = E[i]?
  | [], _, _ => rfl
  | j :: S, E, h => by
    show (freeze (frz1 E j) S)[i]? = _
    rw [freeze_out fun z => h (List.mem_cons_of_mem _ z), frz1_out fun z => h (by rw [z]; exact List.mem_cons_self)]
def lcL (g : D → Env → Option Env) (t : TF) (f : EF) (vs : List Nat) : List D → Env → Option (List D × Env)
  | [], E => some ([], E)
  | d :: ds, E => match g d E with
    | none => none
    | some E1 => match t E1 with
      | none => none
      | some (false, E2) => lcL g t f vs ds (wipeE E2 vs)
      | some (true, E2) => match f E2 with
        | none => none
        | some (y, E3) => match lcL g t f vs ds (wipeE E3 vs) with
          | some (ys, E4) => some (y :: ys, E4)
          | none => none
def kLc (k ke : Kind) (vs : List Nat) : Kind := if ke = .own then .own else .top (k.S ++ ke.S.filter fun s => !vs.contains s)
def eLc (k : Kind) (src : IF) (g : Bool → D → Env → Option Env) (t : TF) (f : EF) (vs M : List Nat) : EF := fun E => match src E with
  | some (ds, E1) => (match lcL (g (newAll E1 k.S)) t f vs ds (wipeE (freeze E1 k.S) vs) with
    | some (ys, E2) => if sl (decide (ds.length ≤ sizeLine)) then some (.lst ys, setM E1 E2 M) else none
    | none => none)
  | none => none
section
variable {G : Gb} {C : Ctx} {H H' : Hp} {σ : L2.St} {E : Env} {Fs Fs' : Nat → List Addr}
theorem Rel.drop2 (R : Rel G C H σ E Fs) (i : Nat) : Rel G C H (σ.set i none) (E.set i none) Fs := by
  have h : ∀ {j m' d'}, (E.set i none)[j]? = some (some (m', d')) → E[j]? = some (some (m', d')) ∧ j ≠ i := fun {j m' d'} e => by
    by_cases h : j = i
    · subst h
      by_cases hj : j < E.length
      · rw [List.getElem?_set_self hj] at e
        cases e
      · rw [List.getElem?_eq_none (by rw [List.length_set]; omega)] at e
        cases e
    · rw [List.getElem?_set_ne (Ne.symm h)] at e
      exact ⟨e, h⟩
  refine ⟨by rw [List.length_set, List.length_set]; exact R.len, fun j m' d' e => ?_, fun j m' d' e hw => let ⟨a, b, c⟩ := R.nd j m' d' (h e).1 hw; ⟨a, b, fun j' m2 d2 hj e2 => c j' m2 d2 hj (h e2).1⟩, fun j m' d' e => R.nw j m' d' (h e).1, R.fr, R.pr, R.pt, R.tb⟩
  obtain ⟨e1, e2⟩ := h e
  rw [List.getElem?_set_ne (Ne.symm e2)]
  exact R.rd j m' d' e1
theorem Rel.wipe (R : Rel G C H σ E Fs) : ∀ vs : List Nat, Rel G C H (L2.wipe σ vs) (wipeE E vs) Fs
  | [] => R
  | v :: vs => (R.wipe vs).drop2 v
theorem Rel.fs (R : Rel G C H σ E Fs) (h : ∀ i, Asg E i → Fs' i = Fs i) : Rel G C H σ E Fs' where
  len := R.len
  rd := fun i m d e => by rw [h i ⟨m, d, e⟩]; exact R.rd i m d e
  nd := fun i m d e hw => by
    rw [h i ⟨m, d, e⟩]
    obtain ⟨h1, h2, h3⟩ := R.nd i m d e hw
    exact ⟨h1, h2, fun j m' d' hj e' => by rw [h j ⟨m', d', e'⟩]; exact h3 j m' d' hj e'⟩
  nw := fun i m d e => by rw [h i ⟨m, d, e⟩]; exact R.nw i m d e
  fr := R.fr
  pr := R.pr
  pt := R.pt
  tb := R.tb
theorem Rel.chgL {p : Addr} (R : Rel G C H σ E Fs) (c : Chg (fun q => q = p) H H') (n : ∀ i, Asg E i → p ∉ Fs i) (h0 : C.H0 p = none) (hT : ¬ C.T p) : Rel G C H' σ E Fs where
  len := R.len
  rd := fun i m d e => let ⟨v, h1, h2, h3⟩ := R.rd i m d e; ⟨v, h1, Rds.chg c d v _ (fun a ha z => n i ⟨m, d, e⟩ (by rw [← z]; exact ha)) h2, h3⟩
  nd := R.nd
  nw := R.nw
  fr := (R.fr.trans c).mono fun q o e z => z.elim id fun z => by rw [z, h0] at e; cases e
  pr := (R.pr.trans c).mono fun q o e z => z.elim id fun z => by rw [z]; exact hT
  pt := R.pt
  tb := fun T hT => c.tab (R.tb T hT)
end
theorem wipe_get {σ : L2.St} {i : Nat} : ∀ {vs : List Nat}, i ∈ vs → i < σ.length → (L2.wipe σ vs)[i]? = some none
  | v :: vs, h, hl => by
    show ((L2.wipe σ vs).set v none)[i]? = _
    by_cases e : v = i
    · subst e
      exact List.getElem?_set_self (by rw [wipe_length]; exact hl)
    · rw [List.getElem?_set_ne e]
      exact wipe_get ((List.mem_cons.mp h).elim (fun z => absurd z.symm e) id) hl
theorem wipe_eq {σ σ' : L2.St} {vs W : List Nat} (hl : σ'.length = (L2.wipe σ vs).length) (h : ∀ i, i ∉ W → σ'[i]? = (L2.wipe σ vs)[i]?) (hW : ∀ i ∈ W, i ∈ vs) : L2.wipe σ' vs = L2.wipe σ vs := by
  refine List.ext_getElem? fun i => ?_
  by_cases hi : i ∈ vs
  · by_cases hlt : i < σ.length
    · rw [wipe_get hi hlt, wipe_get hi (by rw [hl, wipe_length]; exact hlt)]
    · rw [List.getElem?_eq_none (by rw [wipe_length, hl, wipe_length]; omega), List.getElem?_eq_none (by rw [wipe_length]; omega)]
  · rw [wipe_out hi]
    exact h i fun z => hi (hW i z)
end
end VL
set_option maxHeartbeats 4000000
namespace VL
noncomputable section
open PySem PySem.Spec PyProof.Rows L2
open GxR (TabB Tabbed)
variable [LamT]
structure LcI (G : Gb) (C : Ctx) (σ : L2.St) (M : List Nat) (Hb : Hp) (Ew : Env) (Fs1 : Nat → List Addr) (P : Addr) (F : List Addr) (Ss : List Nat) (own : Bool) (ys : List D) (Hc : Hp) (Ec : Env) (Fsc : Nat → List Addr) (us : List V) (Gs : List Addr) : Prop where
  rel : Rel G C Hc σ Ec Fsc
  stp : Stp M Hb Hc Ew Ec Fs1 Fsc
  nP : ∀ i, Asg Ec i → P ∉ Fsc i
  acc : Hc P = some (.lst us) ∧ P ∉ Gs ∧ RdsL G Hc ys us Gs ∧ (∀ a ∈ Gs, a ∈ F ∨ (∃ s ∈ Ss, Asg Ew s ∧ a ∈ Fs1 s) ∨ Loose Hb Ec Fsc a) ∧ (own = true → Gs.Nodup ∧ ∀ a ∈ Gs, Loose Hb Ec Fsc a)
section
variable {G : Gb} {C : Ctx} {σ σ3 : L2.St} {M vs W : List Nat} {Hb Hc H2 H4 : Hp} {Ew Ec E3 E4 : Env} {Fs1 Fsc Fs3 Fs4 : Nat → List Addr} {P : Addr} {F A : List Addr} {Ss : List Nat} {own : Bool} {ys : List D} {b : Bool} {us : List V} {Gs : List Addr}
theorem lc_stp (hMv : ∀ i ∈ M, i ∉ vs) (hW : ∀ i ∈ W, i ∈ vs) (hEw : ∀ i ∈ vs, i < Ew.length → Ew[i]? = some none) (hlen : Ec.length = Ew.length) (s : Stp M Hb Hc Ew Ec Fs1 Fsc) (c : Chg No Hc H2) (b3 : BStp (.pr b) W A σ σ3 Ec E3 Fsc Fs3) (s4 : Stp M H2 H4 E3 E4 Fs3 Fs4) (l3 : E3.length = Ec.length) (l4 : E4.length = E3.length) :
    Stp M Hb H4 Ew (wipeE E4 vs) Fs1 (fun i => if i ∈ vs then Fs1 i else Fs4 i) := by
  have e3 : ∀ i, i ∉ vs → E3[i]? = Ec[i]? := fun i hi => b3.env b rfl i fun z => hi (hW i z)
  have f3 : ∀ i, i ∉ vs → Fs3 i = Fsc i := fun i hi => b3.fs i fun z => hi (hW i z)
  have sc : Chg (fun q => ∃ i ∈ M, ∃ m d, Ew[i]? = some (some (m, d)) ∧ m.w = true ∧ q ∈ Fs1 i) Hb H4 := by
    refine ((s.chg.trans c).trans s4.chg).mono fun q o e h => ?_
    rcases h with (h | h) | ⟨i, hi, m, d, h1, h2, h3⟩
    · exact h
    · exact h.elim
    · rw [e3 i (hMv i hi)] at h1
      rw [f3 i (hMv i hi)] at h3
      obtain ⟨d', h4⟩ := (s.md i).2 m d h1
      refine ⟨i, hi, m, d', h4, h2, ?_⟩
      rcases s.gr i q h3 with z | z
      · exact z
      · rw [e] at z
        cases z
  refine ⟨sc, fun i hi => ?_, fun i a ha => ?_, fun i hi => ?_, fun i => ?_⟩
  · by_cases hv : i ∈ vs
    · exact if_pos hv
    · rw [if_neg hv, s4.fs i hi, f3 i hv]
      exact s.fs i hi
  · by_cases hv : i ∈ vs
    · rw [if_pos hv] at ha
      exact .inl ha
    · rw [if_neg hv] at ha
      rcases s4.gr i a ha with z | z
      · rw [f3 i hv] at z
        exact s.gr i a z
      · exact .inr (s.chg.back (c.back z))
  · by_cases hv : i ∈ vs
    · by_cases hl : i < Ew.length
      · rw [hEw i hv hl, wipeE_in hv (by omega)]
      · rw [List.getElem?_eq_none (by rw [wipeE_len]; omega), List.getElem?_eq_none (by omega)]
    · rw [wipeE_out hv, s4.env i hi, e3 i hv]
      exact s.env i hi
  · by_cases hv : i ∈ vs
    · have h1 : ∀ m d, Ew[i]? ≠ some (some (m, d)) := fun m d e => by
        rw [hEw i hv (List.getElem?_eq_some_iff.mp e).1] at e
        cases e
      exact ⟨fun m d e => absurd e (h1 m d), fun m d e => absurd hv (wipeE_some e).2⟩
    · rw [wipeE_out hv]
      refine ⟨fun m d e => ?_, fun m d e => ?_⟩
      · obtain ⟨d1, z1⟩ := (s.md i).1 m d e
        rw [← e3 i hv] at z1
        exact (s4.md i).1 m d1 z1
      · obtain ⟨d1, z1⟩ := (s4.md i).2 m d e
        rw [e3 i hv] at z1
        exact (s.md i).2 m d1 z1
theorem Loose.later {a : Addr} {o : HO} {Hb : Hp} (hW : ∀ i ∈ W, i ∈ vs) (e : Hc a = some o) (c : Chg No Hc H2) (b3 : BStp (.pr b) W A σ σ3 Ec E3 Fsc Fs3) (s4 : Stp M H2 H4 E3 E4 Fs3 Fs4) (h : Loose Hb Ec Fsc a) : Loose Hb (wipeE E4 vs) (fun i => if i ∈ vs then Fs1 i else Fs4 i) a := by
  refine ⟨h.1, fun i ⟨m, d, e'⟩ hm => ?_⟩
  obtain ⟨e1, hv⟩ := wipeE_some e'
  have hm : a ∈ (if i ∈ vs then Fs1 i else Fs4 i) := hm
  rw [if_neg hv] at hm
  have hw : i ∉ W := fun z => hv (hW i z)
  obtain ⟨o2, e2⟩ := c.there e
  rcases s4.gr i a hm with z | z
  · rw [b3.fs i hw] at z
    obtain ⟨d1, z1⟩ := (s4.md i).2 m d e1
    rw [b3.env b rfl i hw] at z1
    exact h.2 i ⟨m, d1, z1⟩ z
  · rw [e2] at z
    cases z
theorem LcI.skip (hMv : ∀ i ∈ M, i ∉ vs) (hW : ∀ i ∈ W, i ∈ vs) (hEw : ∀ i ∈ vs, i < Ew.length → Ew[i]? = some none) (hSs : ∀ s ∈ Ss, s ∉ M) (hF : ∀ a ∈ F, C.T a)
    (I : LcI G C σ M Hb Ew Fs1 P F Ss own ys Hc Ec Fsc us Gs) (hEl : Ec.length = Ew.length) (c : Chg No Hc H2) (b3 : BStp (.pr b) W A σ σ3 Ec E3 Fsc Fs3) (s4 : Stp M H2 H4 E3 E4 Fs3 Fs4) (R3 : Rel G C H2 σ3 E3 Fs3) (R4 : Rel G C H4 σ3 E4 Fs4) (hσ : L2.wipe σ3 vs = σ) :
    LcI G C σ M Hb Ew Fs1 P F Ss own ys H4 (wipeE E4 vs) (fun i => if i ∈ vs then Fs1 i else Fs4 i) us Gs := by
  have l3 : E3.length = Ec.length := by rw [R3.len, I.rel.len]; exact b3.len
  have l4 : E4.length = E3.length := by rw [R4.len, R3.len]
  have e3 : ∀ i, i ∉ vs → E3[i]? = Ec[i]? := fun i hi => b3.env b rfl i fun z => hi (hW i z)
  have f3 : ∀ i, i ∉ vs → Fs3 i = Fsc i := fun i hi => b3.fs i fun z => hi (hW i z)
  refine ⟨?_, lc_stp hMv hW hEw hEl I.stp c b3 s4 l3 l4, ?_, ?_⟩
  · have := R4.wipe vs
    rw [hσ] at this
    refine this.fs fun i ⟨m, d, e⟩ => if_neg (wipeE_some e).2
  · obtain ⟨h1, _⟩ := I.acc
    intro i ⟨m, d, e⟩ hm
    obtain ⟨e1, hv⟩ := wipeE_some e
    have hm : P ∈ (if i ∈ vs then Fs1 i else Fs4 i) := hm
    rw [if_neg hv] at hm
    rcases s4.gr i P hm with z | z
    · rw [f3 i hv] at z
      obtain ⟨d1, z1⟩ := (s4.md i).2 m d e1
      rw [e3 i hv] at z1
      exact I.nP i ⟨m, d1, z1⟩ z
    · rw [c.keep h1 rfl fun z => z] at z
      cases z
  · obtain ⟨h1, hPG, h2, h3, h4⟩ := I.acc
    have wr : ∀ {a}, (∃ i ∈ M, ∃ m d, E3[i]? = some (some (m, d)) ∧ m.w = true ∧ a ∈ Fs3 i) → ∃ i ∈ M, ∃ m d, Ec[i]? = some (some (m, d)) ∧ m.w = true ∧ a ∈ Fsc i := fun {a} ⟨i, hi, m, d, g1, g2, g3⟩ => by
      rw [e3 i (hMv i hi)] at g1
      rw [f3 i (hMv i hi)] at g3
      exact ⟨i, hi, m, d, g1, g2, g3⟩
    have ap : ∀ a ∈ Gs, ¬ ∃ i ∈ M, ∃ m d, E3[i]? = some (some (m, d)) ∧ m.w = true ∧ a ∈ Fs3 i := fun a ha h => by
      obtain ⟨i, hi, m, d, g1, g2, g3⟩ := wr h
      rcases h3 a ha with z | ⟨s, hs, ⟨m', d', z1⟩, z2⟩ | z
      · exact (I.rel.nd i m d g1 g2).2.1 a g3 (hF a z)
      · obtain ⟨d2, z3⟩ := (I.stp.md s).1 m' d' z1
        exact (I.rel.nd i m d g1 g2).2.2 s m' d2 (fun e => hSs s hs (by rw [e]; exact hi)) z3 a g3 (by rw [I.stp.fs s (hSs s hs)]; exact z2)
      · exact z.2 i ⟨m, d, g1⟩ g3
    have apP : ¬ ∃ i ∈ M, ∃ m d, E3[i]? = some (some (m, d)) ∧ m.w = true ∧ P ∈ Fs3 i := fun h => by
      obtain ⟨i, hi, m, d, g1, g2, g3⟩ := wr h
      exact I.nP i ⟨m, d, g1⟩ g3
    have tr : ∀ a ∈ Gs, ∃ o, Hc a = some o := fun a ha => let ⟨o, eo, _⟩ := RdsL.trk _ _ _ h2 a ha; ⟨o, eo⟩
    refine ⟨s4.chg.keep (c.keep h1 rfl fun z => z) rfl apP, hPG, RdsL.chg s4.chg _ _ _ ap (RdsL.chg c _ _ _ (fun _ _ z => z) h2), fun a ha => ?_, fun ho => ⟨(h4 ho).1, fun a ha => ?_⟩⟩
    · obtain ⟨o, eo⟩ := tr a ha
      rcases h3 a ha with z | z | z
      · exact .inl z
      · exact .inr (.inl z)
      · exact .inr (.inr (Loose.later hW eo c b3 s4 z))
    · obtain ⟨o, eo⟩ := tr a ha
      exact Loose.later hW eo c b3 s4 ((h4 ho).2 a ha)
theorem LcI.add {ke : Kind} {d : D} {v : V} {F5 : List Addr} {H5 : Hp} {E5 : Env} {Fs5 : Nat → List Addr} (hke : ∀ s ∈ ke.S, s ∉ M) (hFP : P ∉ F) (hb : Hb P = none) (h0 : C.H0 P = none) (hT : ¬ C.T P) (hSs : Ss = ke.S.filter fun s => !vs.contains s) (hown : own = true → ke = .own)
    (I : LcI G C σ M Hb Ew Fs1 P F Ss own ys H5 (wipeE E5 vs) (fun i => if i ∈ vs then Fs1 i else Fs5 i) us Gs) (c4 : ∀ a, H4 a = none → Hb a = none) (p4 : ∃ o, H4 P = some o)
    (pG : ∀ a ∈ Gs, ∃ o, H4 a = some o)
    (vF : ∀ s ∈ vs, Asg E5 s → ∀ a ∈ Fs5 s, a ∈ F) (rd : Rds G H5 d v F5) (ko : KOk σ3 H4 E5 Fs5 ke d v F5) :
    LcI G C σ M Hb Ew Fs1 P F Ss own (ys ++ [d]) (upd H5 P (.lst (us ++ [v]))) (wipeE E5 vs) (fun i => if i ∈ vs then Fs1 i else Fs5 i) (us ++ [v]) (Gs ++ F5) := by
  obtain ⟨hus, PG, h2, h3, h4⟩ := I.acc
  have cP : Chg (fun q => q = P) H5 (upd H5 P (.lst (us ++ [v]))) := Chg.put hus rfl rfl
  have sl : ∀ {s a}, s ∈ ke.S → s ∉ vs → Asg E5 s → a ∈ Fs5 s → (Asg (wipeE E5 vs) s ∧ Asg Ew s ∧ a ∈ Fs1 s) := fun {s a} hs hv g1 g2 => by
    have g1' : Asg (wipeE E5 vs) s := by
      obtain ⟨m, d', e⟩ := g1
      exact ⟨m, d', by rw [wipeE_out hv]; exact e⟩
    have e := I.stp.fs s (hke s hs)
    have e : (if s ∈ vs then Fs1 s else Fs5 s) = Fs1 s := e
    rw [if_neg hv] at e
    exact ⟨g1', I.stp.asg.mp g1', by rw [← e]; exact g2⟩
  have lo : ∀ {a}, Loose H4 E5 Fs5 a → Loose Hb (wipeE E5 vs) (fun i => if i ∈ vs then Fs1 i else Fs5 i) a := fun {a} g => ⟨c4 a g.1, fun i ⟨m, d', e⟩ hm => by
    obtain ⟨e1, hv⟩ := wipeE_some e
    have hm : a ∈ (if i ∈ vs then Fs1 i else Fs5 i) := hm
    rw [if_neg hv] at hm
    exact g.2 i ⟨m, d', e1⟩ hm⟩
  have p5 : ∀ a ∈ F5, a ∈ F ∨ (∃ s ∈ Ss, Asg Ew s ∧ a ∈ Fs1 s) ∨ Loose Hb (wipeE E5 vs) (fun i => if i ∈ vs then Fs1 i else Fs5 i) a := fun a ha => by
    rcases ko.vw a ha with ⟨s, hs, g1, g2⟩ | g
    · by_cases hv : s ∈ vs
      · exact .inl (vF s hv g1 a g2)
      · obtain ⟨_, g3, g4⟩ := sl hs hv g1 g2
        exact .inr (.inl ⟨s, by rw [hSs]; exact List.mem_filter.mpr ⟨hs, by simpa using hv⟩, g3, g4⟩)
    · exact .inr (.inr (lo g))
  have PF5 : P ∉ F5 := fun hp => by
    rcases ko.vw P hp with ⟨s, hs, g1, g2⟩ | g
    · by_cases hv : s ∈ vs
      · exact hFP (vF s hv g1 P g2)
      · obtain ⟨g3, _, _⟩ := sl hs hv g1 g2
        exact I.nP s g3 (show P ∈ (if s ∈ vs then Fs1 s else Fs5 s) by rw [if_neg hv]; exact g2)
    · obtain ⟨o, eo⟩ := p4
      rw [g.1] at eo
      cases eo
  refine ⟨I.rel.chgL cP I.nP h0 hT, ?_, I.nP, upd_same, fun hp => (List.mem_append.mp hp).elim PG PF5, ?_, fun a ha => ?_, fun ho => ?_⟩
  · have st := I.stp
    refine ⟨fun q o e => ?_, st.fs, st.gr, st.env, st.md⟩
    by_cases hq : q = P
    · subst hq
      rw [hb] at e
      cases e
    · rcases st.chg q o e with z | ⟨z1, z2⟩ | ⟨z1, z2, o', z3, z4⟩
      · exact .inl (by rw [upd_ne hq]; exact z)
      · exact .inr (.inl ⟨z1, cP.tab z2⟩)
      · exact .inr (.inr ⟨z1, z2, o', by rw [upd_ne hq]; exact z3, z4⟩)
  · refine rdsL_app (RdsL.chg cP _ _ _ (fun a ha z => PG (by rw [← z]; exact ha)) h2) (rdsL_cons.mpr ⟨v, [], F5, [], rfl, by simp, Rds.chg cP _ _ _ (fun a ha z => PF5 (by rw [← z]; exact ha)) rd, rdsL_nil.mpr ⟨rfl, rfl⟩⟩)
  · rcases List.mem_append.mp ha with ha | ha
    · exact h3 a ha
    · exact p5 a ha
  · have hk := hown ho
    subst hk
    obtain ⟨g1, g2⟩ := h4 ho
    have lo5 : ∀ a ∈ F5, Loose H4 E5 Fs5 a := fun a ha => by
      rcases ko.2 a ha with ⟨_, z, _⟩ | g
      · cases z
      · exact g
    refine ⟨?_, fun a ha => (List.mem_append.mp ha).elim (g2 a) fun z => lo (lo5 a z)⟩
    rw [List.nodup_append]
    refine ⟨g1, ko.1, fun a ha b' hb' e => ?_⟩
    subst e
    obtain ⟨o, eo⟩ := pG a ha
    rw [(lo5 a hb').1] at eo
    cases eo
end
end
end VL
set_option maxHeartbeats 4000000
namespace VL
noncomputable section
open PySem PySem.Spec PyProof.Rows L2
open GxR (TabB Tabbed)
variable [LamT]
abbrev VTs (G : Gb) (X : Cx) (ifs : List Expr) (M : List Nat) (t : TF) : Prop := PTs X ifs (tVT G M t)
def tYesF : TF := fun E => some (true, E)
section
variable {G : Gb} {X : Cx} {e : Expr} {M M' : List Nat} {k : Kind} {f : EF} {t : TF}
theorem vts_nil : VTs G X [] [] tYesF := ⟨fun pins s σ H Q I ⟨C, E, Fs, R, b, E', e, q⟩ => pts_nil.run pins s σ H Q I (by cases e; exact q H Fs R Stp.refl)⟩
theorem vts_one (h : VT G X e M t) : VTs G X [e] M t := pts_one h
theorem ve_mono (h : VE G X e M k f) (hm : (M.all fun i => M'.contains i) = true := by rfl) : VE G X e M' k f := PE.imp h fun σ H Q ⟨C, E, Fs, R, d, E', e, q⟩ =>
  ⟨C, E, Fs, R, d, E', e, fun v H' Fs' F R' s' r' k' => q v H' Fs' F R' (s'.mono fun i hi => by simpa using List.all_eq_true.mp hm i hi) r' k'⟩
theorem vts_mono {es : List Expr} (h : VTs G X es M t) (hm : (M.all fun i => M'.contains i) = true := by rfl) : VTs G X es M' t := ⟨fun pins s σ H Q I ⟨C, E, Fs, R, b, E', e, q⟩ => h.run pins s σ H Q I
  ⟨C, E, Fs, R, b, E', e, fun H' Fs' R' s' => q H' Fs' R' (s'.mono fun i hi => by simpa using List.all_eq_true.mp hm i hi)⟩⟩
end
def lcOk (k ke : Kind) (M W vs : List Nat) : Bool := M.all (fun i => !vs.contains i) && W.all (fun i => vs.contains i) && k.safe M && ke.safe M
section
variable {G : Gb} {C C' : Ctx} {H H1 Hc : Hp} {σ : L2.St} {E E1 Ec : Env} {Fs Fs1 Fsc : Nat → List Addr} {M M0 vs : List Nat} {P : Addr} {F : List Addr} {k ke : Kind} {ys : List D} {Q : VK} {us : List V} {Gs : List Addr}
theorem lc_end (hM : ∀ i ∈ M, i ∉ vs ∧ i ∉ k.S) (hke : ∀ s ∈ ke.S, s ∉ M) (hC0 : C'.H0 = C.H0) (hCZ : C'.Z = C.Z) (hCT : ∀ a, C.T a → C'.T a) (hCi : C'.iov = C.iov) (hP1 : H1 P = none) (R1 : Rel G C H1 σ E1 Fs1) (s1 : Stp M0 H H1 E E1 Fs Fs1) (tr : ∀ a ∈ F, ∃ o, H1 a = some o) (vw : Vw H E1 Fs1 k.S F)
    (I : LcI G C' (L2.wipe σ vs) M H1 (wipeE (freeze E1 k.S) vs) Fs1 P F (ke.S.filter fun s => !vs.contains s) (decide (ke = .own)) ys Hc Ec Fsc us Gs)
    (q : ∀ v H' Fs' F, Rel G C H' σ (setM E1 Ec M) Fs' → Stp (M0 ++ M) H H' E (setM E1 Ec M) Fs Fs' → Rds G H' (.lst ys) v F → KOk σ H (setM E1 Ec M) Fs' (kLc k ke vs) (.lst ys) v F → Q v H') : Q (.ref P) Hc := by
  obtain ⟨a1, PG, a2, a3, a4⟩ := I.acc
  have ew : ∀ i ∈ M, (wipeE (freeze E1 k.S) vs)[i]? = E1[i]? := fun i hi => by rw [wipeE_out (hM i hi).1, freeze_out (hM i hi).2]
  have ewA : ∀ {i}, Asg (wipeE (freeze E1 k.S) vs) i → Asg E1 i := fun {i} ⟨m, d, e⟩ => by
    obtain ⟨e1, _⟩ := wipeE_some e
    exact asg_frz.mp ⟨m, d, e1⟩
  have wA : ∀ {i}, i ∉ vs → Asg E1 i → Asg (wipeE (freeze E1 k.S) vs) i := fun {i} hv h => by
    obtain ⟨m, d, e⟩ := asg_frz (S := k.S).mpr h
    exact ⟨m, d, by rw [wipeE_out hv]; exact e⟩
  have tr1 : ∀ {i a}, Asg E1 i → a ∈ Fs1 i → ∃ o, H1 a = some o := fun {i a} ⟨m, d, e⟩ ha => by
    obtain ⟨v, _, r, _⟩ := R1.rd i m d e
    obtain ⟨o, eo, _⟩ := Rds.trk d v _ r a ha
    exact ⟨o, eo⟩
  have ein : ∀ {i m d'}, i ∈ M → (setM E1 Ec M)[i]? = some (some (m, d')) → Ec[i]? = some (some (m, d')) ∧ ∃ d, E1[i]? = some (some (m, d)) := fun {i m d'} hi e => by
    have hl : i < E1.length := by
      have := (List.getElem?_eq_some_iff.mp e).1
      rw [setM_len] at this
      exact this
    rw [setM_in hi hl] at e
    have e2 : Ec[i]? = some (some (m, d')) := by
      cases h : Ec[i]? with
      | none => rw [h] at e; cases e
      | some o =>
        rw [h] at e
        exact e
    obtain ⟨d, e3⟩ := (I.stp.md i).2 m d' e2
    exact ⟨e2, d, by rw [← ew i hi]; exact e3⟩
  have ein2 : ∀ {i m d}, i ∈ M → E1[i]? = some (some (m, d)) → ∃ d', (setM E1 Ec M)[i]? = some (some (m, d')) := fun {i m d} hi e => by
    obtain ⟨d', e2⟩ := (I.stp.md i).1 m d (by rw [ew i hi]; exact e)
    exact ⟨d', by rw [setM_in hi (List.getElem?_eq_some_iff.mp e).1, e2]; rfl⟩
  have asgE : ∀ {i}, Asg (setM E1 Ec M) i ↔ Asg E1 i := fun {i} => by
    by_cases hi : i ∈ M
    · exact ⟨fun ⟨m, d, e⟩ => let ⟨_, d', e'⟩ := ein hi e; ⟨m, d', e'⟩, fun ⟨m, d, e⟩ => let ⟨d', e'⟩ := ein2 hi e; ⟨m, d', e'⟩⟩
    · unfold Asg
      rw [setM_out hi]
  have wr : ∀ q, (∃ i ∈ M, ∃ m d, (wipeE (freeze E1 k.S) vs)[i]? = some (some (m, d)) ∧ m.w = true ∧ q ∈ Fs1 i) → ∃ i ∈ M, ∃ m d, E1[i]? = some (some (m, d)) ∧ m.w = true ∧ q ∈ Fs1 i := fun q ⟨i, hi, m, d, h1, h2, h3⟩ => ⟨i, hi, m, d, by rw [← ew i hi]; exact h1, h2, h3⟩
  let Fsf : Nat → List Addr := fun i => if i ∈ M then Fsc i else Fs1 i
  have fin : ∀ {i}, i ∈ M → Fsf i = Fsc i := fun {i} hi => if_pos hi
  have fout : ∀ {i}, i ∉ M → Fsf i = Fs1 i := fun {i} hi => if_neg hi
  have R2 : Rel G C Hc σ (setM E1 Ec M) Fsf := by
    refine ⟨by rw [setM_len]; exact R1.len, fun i m d e => ?_, fun i m d e hw => ?_, fun i m d e => ?_, ?_, ?_, R1.pt, I.rel.tb⟩
    · by_cases hi : i ∈ M
      · obtain ⟨e2, d1, e1⟩ := ein hi e
        obtain ⟨v, h1, h2, h3⟩ := I.rel.rd i m d e2
        rw [wipe_out (hM i hi).1] at h1
        exact ⟨v, h1, by rw [fin hi]; exact h2, fun z => by rw [h3 z, hCi]⟩
      · rw [setM_out hi] at e
        obtain ⟨v, h1, h2, h3⟩ := R1.rd i m d e
        refine ⟨v, h1, ?_, h3⟩
        rw [fout hi]
        refine Rds.chg I.stp.chg _ _ _ (fun a ha h => ?_) h2
        obtain ⟨j, hj, m', d', g1, g2, g3⟩ := wr a h
        exact (R1.nd j m' d' g1 g2).2.2 i m d (fun z => hi (by rw [z]; exact hj)) e a g3 ha
    · by_cases hi : i ∈ M
      · obtain ⟨e2, d1, e1⟩ := ein hi e
        obtain ⟨h1, h2, h3⟩ := I.rel.nd i m d e2 hw
        rw [fin hi]
        refine ⟨h1, fun a ha hT => h2 a ha (hCT a hT), fun j m' d' hj ej a ha hb => ?_⟩
        by_cases hj2 : j ∈ M
        · obtain ⟨e3, _⟩ := ein hj2 ej
          rw [fin hj2] at hb
          exact h3 j m' d' hj e3 a ha hb
        · rw [setM_out hj2] at ej
          rw [fout hj2] at hb
          rcases I.stp.gr i a ha with z | z
          · exact (R1.nd i m d1 e1 hw).2.2 j m' d' hj ej a z hb
          · obtain ⟨o, eo⟩ := tr1 ⟨m', d', ej⟩ hb
            rw [z] at eo
            cases eo
      · rw [setM_out hi] at e
        obtain ⟨h1, h2, h3⟩ := R1.nd i m d e hw
        rw [fout hi]
        refine ⟨h1, h2, fun j m' d' hj ej a ha hb => ?_⟩
        by_cases hj2 : j ∈ M
        · obtain ⟨e3, d3, e4⟩ := ein hj2 ej
          rw [fin hj2] at hb
          rcases I.stp.gr j a hb with z | z
          · exact h3 j m' d3 hj e4 a ha z
          · obtain ⟨o, eo⟩ := tr1 ⟨m, d, e⟩ ha
            rw [z] at eo
            cases eo
        · rw [setM_out hj2] at ej
          rw [fout hj2] at hb
          exact h3 j m' d' hj ej a ha hb
    · by_cases hi : i ∈ M
      · obtain ⟨e2, d1, e1⟩ := ein hi e
        rw [fin hi, ← hC0, ← hCZ]
        exact I.rel.nw i m d e2
      · rw [setM_out hi] at e
        rw [fout hi]
        exact R1.nw i m d e
    · rw [← hC0, ← hCZ]
      exact I.rel.fr
    · refine (R1.pr.trans I.stp.chg).mono fun q o e h => ?_
      rcases h with h | h
      · exact h
      · obtain ⟨j, hj, m', d', g1, g2, g3⟩ := wr q h
        exact (R1.nd j m' d' g1 g2).2.1 q g3
  have s2 : Stp M H1 Hc E1 (setM E1 Ec M) Fs1 Fsf := by
    refine ⟨I.stp.chg.mono fun q o _ h => wr q h, fun i hi => fout hi, fun i a ha => ?_, fun i hi => setM_out hi, fun i => ?_⟩
    · by_cases hi : i ∈ M
      · rw [fin hi] at ha
        exact I.stp.gr i a ha
      · rw [fout hi] at ha
        exact .inl ha
    · by_cases hi : i ∈ M
      · exact ⟨fun m d e => ein2 hi e, fun m d e => (ein hi e).2⟩
      · rw [setM_out hi]
        exact ⟨fun m d e => ⟨d, e⟩, fun m d e => ⟨d, e⟩⟩
  have lo : ∀ {a}, H1 a = none → (∀ i ∈ M, Asg Ec i → a ∉ Fsc i) → Loose H (setM E1 Ec M) Fsf a := fun {a} n h => ⟨s1.chg.back n, fun i hi hm => by
    by_cases hM' : i ∈ M
    · rw [fin hM'] at hm
      obtain ⟨m, d, e⟩ := hi
      exact h i hM' ⟨m, d, (ein hM' e).1⟩ hm
    · rw [fout hM'] at hm
      obtain ⟨o, eo⟩ := tr1 (asgE.mp hi) hm
      rw [n] at eo
      cases eo⟩
  have loP : Loose H (setM E1 Ec M) Fsf P := lo hP1 fun i _ hi => I.nP i hi
  refine q (.ref P) Hc Fsf (P :: Gs) R2 (s1.trans s2) (rds_lst.mpr ⟨P, us, Gs, rfl, a1, a2, rfl⟩) ?_
  unfold kLc
  by_cases hk : ke = .own
  · rw [if_pos hk]
    obtain ⟨g1, g2⟩ := a4 (decide_eq_true hk)
    refine ⟨List.nodup_cons.mpr ⟨PG, g1⟩, fun a ha => .inr ?_⟩
    rcases List.mem_cons.mp ha with rfl | ha
    · exact loP
    · exact lo (g2 a ha).1 fun i _ hi => (g2 a ha).2 i hi
  · rw [if_neg hk]
    refine ⟨fun a ha => ?_, fun a r _ e => by cases e; exact loP⟩
    rcases List.mem_cons.mp ha with rfl | ha
    · exact .inr loP
    · have kSM : ∀ s ∈ k.S, s ∉ M := fun s hs hm => (hM s hm).2 hs
      rcases a3 a ha with z | ⟨s, hs, z1, z2⟩ | z
      · rcases vw a z with ⟨s, hs, g1, g2⟩ | g
        · exact .inl ⟨s, List.mem_append_left _ hs, asgE.mpr g1, by rw [fout (kSM s hs)]; exact g2⟩
        · refine .inr ⟨g.1, fun i hi hm => ?_⟩
          by_cases hM' : i ∈ M
          · rw [fin hM'] at hm
            rcases I.stp.gr i a hm with y | y
            · exact g.2 i (asgE.mp hi) y
            · obtain ⟨o, eo⟩ := tr a z
              rw [y] at eo
              cases eo
          · rw [fout hM'] at hm
            exact g.2 i (asgE.mp hi) hm
      · have hs' := (List.mem_filter.mp hs).1
        exact .inl ⟨s, List.mem_append_right _ hs, asgE.mpr (ewA z1), by rw [fout (hke s hs')]; exact z2⟩
      · exact .inr (lo z.1 fun i _ hi => z.2 i hi)
end
section
variable {G : Gb} {X : Cx}
theorem lc_of {M M0 W vs : List Nat} {k ke : Kind} {src : IF} {g : Bool → D → Env → Option Env} {t : TF} {f : EF} {σ : L2.St} {H : Hp} {Q : VK} (sd : lcOk k ke M W vs = true) (h : tV G (M0 ++ M) (kLc k ke vs) (eLc k src g t f vs M) σ H Q) :
    tLc (tVI G M0 k src) (fun v σ H Q => ∃ b, tVG G (.pr b) W (g b) v σ H Q) (tVT G M t) (tV G M ke f) vs σ H Q := by
  obtain ⟨C, E, Fs, R, d, E', e, q⟩ := h
  unfold lcOk at sd
  simp only [Bool.and_eq_true] at sd
  obtain ⟨⟨⟨d1, d2⟩, d3⟩, d4⟩ := sd
  have hMv : ∀ i ∈ M, i ∉ vs := fun i hi => by simpa using List.all_eq_true.mp d1 i hi
  have hW : ∀ i ∈ W, i ∈ vs := fun i hi => by simpa using List.all_eq_true.mp d2 i hi
  have hkM : ∀ i ∈ M, i ∉ k.S := fun i hi hs => Kind.safe_of d3 i hs hi
  have hke := Kind.safe_of d4
  unfold eLc at e
  split at e
  · rename_i ds E1 e1
    split at e
    · rename_i ys E2 e2
      split at e
      · rename_i hlen
        replace hlen := sl_iff.mp hlen
        cases e
        refine ⟨C, E, Fs, R, ds, E1, e1, fun J H1 Fs1 F R1 s1 it tr vw P hP => ?_⟩
        have nwF := new_of R1 R.hn vw
        generalize newAll E1 k.S = bb at e2 nwF
        have trF : ∀ a ∈ F, ∃ o, H1 a = some o := fun a ha => let ⟨o, eo, _⟩ := tr a ha; ⟨o, eo⟩
        have PF : P ∉ F := fun hp => by
          obtain ⟨o, eo⟩ := trF P hp
          rw [hP] at eo
          cases eo
        have hPn := R1.hn P hP
        have RL := ((R1.lock R.hn tr vw).chg (Chg.new (p := P) (u := .lst []) hP)).wipe vs
        have EwN : ∀ i ∈ vs, i < (wipeE (freeze E1 k.S) vs).length → (wipeE (freeze E1 k.S) vs)[i]? = some none := fun i hi hl => wipeE_in hi (by rw [wipeE_len] at hl; exact hl)
        have cF : ∀ {Hc Ec Fsc}, Rel G { C with T := fun a => C.T a ∨ a ∈ F, HT := H1 } Hc (L2.wipe σ vs) Ec Fsc → Chg (fun a => a ∉ F) H1 Hc := fun r => r.pr.mono fun q o _ h hF => h (.inr hF)
        refine ⟨fun i m Hc => m = ds.length - i ∧ i ≤ ds.length ∧ ∃ Ec Fsc ysd rest us Gs, LcI G { C with T := fun a => C.T a ∨ a ∈ F, HT := H1 } (L2.wipe σ vs) M H1 (wipeE (freeze E1 k.S) vs) Fs1 P F (ke.S.filter fun s => !vs.contains s) (decide (ke = .own)) ysd Hc Ec Fsc us Gs ∧
          lcL (g bb) t f vs (ds.drop i) Ec = some (rest, E2) ∧ ys = ysd ++ rest ∧ ysd.length ≤ i, ⟨ds.length, by simp, Nat.zero_le _, _, Fs1, [], ys, [], [], ⟨RL, Stp.of (Chg.new hP), fun i hi hm => ?_, upd_same, (by simp), rdsL_nil.mpr ⟨rfl, rfl⟩, fun a ha => (by cases ha), fun _ => ⟨List.nodup_nil, fun a ha => (by cases ha)⟩⟩, e2, rfl, Nat.zero_le _⟩, ?_⟩
        · obtain ⟨m, d, e⟩ := hi
          obtain ⟨v, _, r, _⟩ := RL.rd i m d e
          obtain ⟨m0, d0, e0⟩ := asg_frz.mp ⟨m, d, (wipeE_some e).1⟩
          obtain ⟨v0, _, r0, _⟩ := R1.rd i m0 d0 e0
          obtain ⟨o, eo, _⟩ := Rds.trk _ _ _ r0 P hm
          rw [hP] at eo
          cases eo
        · rintro i m Hc ⟨rfl, hi', Ec, Fsc, ysd, rest, us, Gs, I, e3, e4, hyl⟩
          have c2 := cF I.rel
          by_cases hlt : i < ds.length
          · refine .inr ⟨it.go Hc i c2 hlt, fun Hn => i < ds.length ∧ ∃ Ec Fsc ysd rest us Gs, LcI G { C with T := fun a => C.T a ∨ a ∈ F, HT := H1 } (L2.wipe σ vs) M H1 (wipeE (freeze E1 k.S) vs) Fs1 P F (ke.S.filter fun s => !vs.contains s) (decide (ke = .own)) ysd Hn Ec Fsc us Gs ∧
              lcL (g bb) t f vs (ds.drop (i + 1)) Ec = some (rest, E2) ∧ ys = ysd ++ rest ∧ ysd.length ≤ i + 1, fun Hn h => ⟨ds.length - (i + 1), by omega, rfl, h.1, h.2⟩, fun y H2 hy => ?_⟩
            obtain ⟨c3, dd, A, ed, rdA, hA⟩ := it.yl Hc i y H2 c2 hlt hy
            have ed' : ds.drop i = dd :: ds.drop (i + 1) := by
              rw [List.drop_eq_getElem_cons hlt]
              rw [List.getElem?_eq_getElem hlt] at ed
              cases ed
              rfl
            rw [ed'] at e3
            unfold lcL at e3
            have Rc := I.rel.chg c3
            have lEc : Ec.length = (wipeE (freeze E1 k.S) vs).length := by
              have h1 := I.rel.len
              have h2 := RL.len
              omega
            cases eg : g bb dd Ec with
            | none => rw [eg] at e3; cases e3
            | some E3 =>
              rw [eg] at e3
              dsimp only at e3
              refine ⟨bb, _, Ec, Fsc, H2, A, dd, Rc, Rc.hn, rdA, ⟨fun a ha => .inr (hA a ha), fun z a ha => nwF z a (hA a ha)⟩, E3, eg, fun σ3 Fs3 R3 b3 => ⟨wipe_eq b3.len b3.sg hW, ?_⟩⟩
              have hσ : L2.wipe σ3 vs = L2.wipe σ vs := wipe_eq b3.len b3.sg hW
              cases et : t E3 with
              | none => rw [et] at e3; cases e3
              | some pt =>
                obtain ⟨tb, E4⟩ := pt
                rw [et] at e3
                refine ⟨_, E3, Fs3, R3, tb, E4, et, fun H4 Fs4 R4 s4 => ?_⟩
                cases tb with
                | false =>
                  dsimp only at e3
                  refine ite_ff ⟨hlt, _, _, ysd, rest, us, Gs, I.skip hMv hW EwN (fun s hs => hke s (List.mem_filter.mp hs).1) (fun a ha => Or.inr ha) lEc c3 b3 s4 R3 R4 hσ, e3, e4, by omega⟩
                | true =>
                  dsimp only at e3
                  refine ite_tt ?_
                  cases ef : f E4 with
                  | none => rw [ef] at e3; cases e3
                  | some py =>
                    obtain ⟨yd, E5⟩ := py
                    rw [ef] at e3
                    dsimp only at e3
                    cases er : lcL (g bb) t f vs (ds.drop (i + 1)) (wipeE E5 vs) with
                    | none => rw [er] at e3; cases e3
                    | some pr =>
                      obtain ⟨ys', E6⟩ := pr
                      rw [er] at e3
                      cases e3
                      refine ⟨_, E4, Fs4, R4, yd, E5, ef, fun v5 H5 Fs5 F5 R5 s5 r5 k5 => ?_⟩
                      have s45 : Stp M H2 H5 E3 E5 Fs3 Fs5 := (s4.trans s5).mono fun i hi => by simpa using hi
                      have I5 := I.skip hMv hW EwN (fun s hs => hke s (List.mem_filter.mp hs).1) (fun a ha => Or.inr ha) lEc c3 b3 s45 R3 R5 hσ
                      obtain ⟨h1, PG, h2, h3, h4⟩ := I.acc
                      have wrP : ∀ {j}, j ∈ M → ∀ m d, E3[j]? = some (some (m, d)) → P ∉ Fs3 j := fun {j} hj m d ej hm => by
                        have hjv : j ∉ W := fun z => hMv j hj (hW j z)
                        rw [b3.fs j hjv] at hm
                        rw [b3.env bb rfl j hjv] at ej
                        exact I.nP j ⟨m, d, ej⟩ hm
                      have hP2 : H2 P = some (.lst us) := c3.keep h1 rfl fun z => z
                      have hP5 : H5 P = some (.lst us) := s45.chg.keep hP2 rfl fun ⟨j, hj, m, d, ej, _, hm⟩ => wrP hj m d ej hm
                      have hP4 : H4 P = some (.lst us) := s4.chg.keep hP2 rfl fun ⟨j, hj, m, d, ej, _, hm⟩ => wrP hj m d ej hm
                      have ll := rdsL_len h2
                      refine ⟨us, hP5, by omega, hlt, _, _, ysd ++ [yd], ys', _, _, I5.add (H4 := H4) hke PF hP hPn.1 (fun z => z.elim hPn.2 PF) rfl (fun h => of_decide_eq_true h) (fun a n => I.stp.chg.back (c3.back (s4.chg.back n))) ⟨_, hP4⟩ (fun a ha => ?_) (fun s hsv hsa a ha => ?_) r5 k5, er, by rw [e4]; simp, by simp; omega⟩
                      · obtain ⟨o, eo, _⟩ := RdsL.trk _ _ _ h2 a ha
                        obtain ⟨o2, eo2⟩ := c3.there eo
                        exact s4.chg.there eo2
                      ·
                        have hsM : s ∉ M := fun z => hMv s z hsv
                        rw [s45.fs s hsM] at ha
                        by_cases hsW : s ∈ W
                        · exact hA a (b3.inW s hsW a ha)
                        · have h5 := (s45.asg (i := s)).mp hsa
                          rw [b3.asg s hsW] at h5
                          have h6 := I.stp.asg.mp h5
                          obtain ⟨m, d, e'⟩ := h6
                          exact absurd hsv (wipeE_some e').2
          · have ei : ds.drop i = [] := List.drop_eq_nil_of_le (by omega)
            rw [ei] at e3
            cases e3
            rw [List.append_nil] at e4
            subst e4
            exact .inl ⟨it.st Hc i c2 (by omega), lc_end (C := C) (C' := { C with T := fun a => C.T a ∨ a ∈ F, HT := H1 }) (fun i hi => ⟨hMv i hi, hkM i hi⟩) hke rfl rfl (fun a h => Or.inl h) rfl hP R1 s1 trF vw I q⟩
      · cases e
    · cases e
  · cases e
variable {elt tg iter : Expr} {ifs : List Expr} {scope : Scope} {own : List (Str × Nat)} {pos : Pos} {M M0 W : List Nat} {k ke : Kind} {src : IF} {g : Bool → D → Env → Option Env} {t : TF} {f : EF}
theorem ve_lc (x : XOk G X) (hN : X.N.Nodup) (hi : VI G X tg iter M0 k src) (ok : BlkOk X.N X.env.scope scope own)
    (hg : ∀ (b : Bool) (s : Shared) (H : Hp) (C : Addr) (cl : List (Str × Addr)) (fp : List Addr), VG G (X.blk s H scope (compEnvC scope cl C X.env) fp) tg (.pr b) W (g b))
    (ht : ∀ (s : Shared) (H : Hp) (C : Addr) (cl : List (Str × Addr)) (fp : List Addr), VTs G (X.blk s H scope (compEnvC scope cl C X.env) fp) ifs M t)
    (he : ∀ (s : Shared) (H : Hp) (C : Addr) (cl : List (Str × Addr)) (fp : List Addr), VE G (X.blk s H scope (compEnvC scope cl C X.env) fp) elt M ke f)
    (sd : lcOk k ke M W (own.map (·.2)) = true := by rfl) (hs : ∀ x, foldedSetIterable iter X.env x = pure x := by intro _; rfl) :
    VE G X (.ListComp elt [⟨tg, iter, ifs, 0⟩] scope pos) (M0 ++ M) (kLc k ke (own.map (·.2))) (eLc k src g t f (own.map (·.2)) M) :=
  PE.imp (pe_lc x.calm hN hi ok (fun s H C cl fp => pg_ex fun b => hg b s H C cl fp) ht he hs) fun σ H Q h => lc_of sd h
end
end
end VL
set_option maxHeartbeats 4000000
namespace VL
noncomputable section
open PySem PySem.Spec PyProof.Rows L2
open GxR (TabB Tabbed)
variable [LamT]
inductive Pst where
  | ix (i : Int) | fl (j : Nat)
def Pst.isI : Pst → Bool
  | .ix _ => true
  | .fl _ => false
def Pst.at : Pst → Nat → Option Nat
  | .ix i, n => ixN n i
  | .fl j, _ => some j
def getP : List Pst → D → Option D
  | [], d => some d
  | .ix i :: p, .lst ds => (atI ds i).bind (getP p)
  | .ix i :: p, .tup ds => (atI ds i).bind (getP p)
  | .fl j :: p, .obj _ _ ds => (ds[j]?).bind (getP p)
  | _, _ => none
def setP : List Pst → D → D → Option D
  | [], _, n => some n
  | .fl j :: p, .obj c ns ds, n => (ds[j]?).bind fun d1 => (setP p d1 n).map fun d2 => .obj c ns (ds.set j d2)
  | .ix i :: p, .lst ds, n => (ixN ds.length i).bind fun j => (ds[j]?).bind fun d1 => (setP p d1 n).map fun d2 => .lst (ds.set j d2)
  | .ix i :: p, .tup ds, n => (ixN ds.length i).bind fun j => (ds[j]?).bind fun d1 => (setP p d1 n).map fun d2 => .tup (ds.set j d2)
  | _, _, _ => none
def Foc (G : Gb) (H : Hp) : List Pst → D → V → List Addr → D → V → List Addr → List Addr → List Addr → Prop
  | [], d, v, F, sd, sv, P, A, S => sd = d ∧ sv = v ∧ P = [] ∧ S = [] ∧ A = F ∧ Rds G H d v F
  | i :: p, d, v, F, sd, sv, P, A, S => ∃ (a : Addr) (xs : List V) (ds : List D) (j : Nat) (d1 : D) (x1 : V) (A1 A2 A3 P' S' Q : List Addr), v = .ref a ∧ ((d = .lst ds ∧ H a = some (.lst xs) ∧ Q = [a] ∧ i.isI = true) ∨ (d = .tup ds ∧ SqT G.K H a xs ∧ Q = [] ∧ i.isI = true) ∨ ∃ c ns dx us, d = .obj c ns ds ∧ H a = some (.ins (G.cls c) dx us) ∧ us.map (·.1) = ns ∧ xs = us.map (·.2) ∧ Q = [a] ∧ i.isI = false) ∧ i.at ds.length = some j ∧ ds[j]? = some d1 ∧ xs[j]? = some x1 ∧
      RdsL G H (ds.take j) (xs.take j) A1 ∧ RdsL G H (ds.drop (j + 1)) (xs.drop (j + 1)) A3 ∧ Foc G H p d1 x1 A2 sd sv P' A S' ∧ F = Q ++ (A1 ++ (A2 ++ A3)) ∧ P = Q ++ (A1 ++ P') ∧ S = S' ++ A3
section
variable {G : Gb} {H H' : Hp}
theorem rdsL_split : ∀ {ds : List D} {vs : List V} {F : List Addr} {j : Nat} {d : D}, RdsL G H ds vs F → ds[j]? = some d → ∃ x A B C', vs[j]? = some x ∧ RdsL G H (ds.take j) (vs.take j) A ∧ Rds G H d x B ∧ RdsL G H (ds.drop (j + 1)) (vs.drop (j + 1)) C' ∧ F = A ++ (B ++ C')
  | [], _, _, j, d, h, e => by simp at e
  | d' :: ds, _, _, 0, d, h, e => by
    obtain ⟨x, r, A, B, rfl, rfl, h1, h2⟩ := rdsL_cons.mp h
    simp at e
    subst e
    exact ⟨x, [], A, B, rfl, rdsL_nil.mpr ⟨rfl, rfl⟩, h1, h2, rfl⟩
  | d' :: ds, _, _, j + 1, d, h, e => by
    obtain ⟨x, r, A, B, rfl, rfl, h1, h2⟩ := rdsL_cons.mp h
    obtain ⟨y, A', B', C', g1, g2, g3, g4, g5⟩ := rdsL_split h2 (show ds[j]? = some d by simpa using e)
    exact ⟨y, A ++ A', B', C', by simpa using g1, rdsL_cons.mpr ⟨x, _, A, A', rfl, rfl, h1, g2⟩, g3, g4, by rw [g5, List.append_assoc]⟩
theorem rdsL_join {ds : List D} {vs : List V} {A B C' : List Addr} {j : Nat} {d : D} {x : V} (hj : j < ds.length) (hl : vs.length = ds.length) (hx : vs[j]? = some x) (h1 : RdsL G H (ds.take j) (vs.take j) A) (h2 : Rds G H d x B) (h3 : RdsL G H (ds.drop (j + 1)) (vs.drop (j + 1)) C') : RdsL G H (ds.set j d) vs (A ++ (B ++ C')) := by
  have e1 : ds.set j d = ds.take j ++ d :: ds.drop (j + 1) := by
    rw [List.set_eq_take_append_cons_drop, if_pos hj]
  have e2 : vs = vs.take j ++ x :: vs.drop (j + 1) := by
    have hj' : j < vs.length := by omega
    rw [List.getElem?_eq_getElem hj'] at hx
    cases hx
    rw [List.getElem_cons_drop, List.take_append_drop]
  rw [e1]
  rw [e2]
  have e3 : (List.take j vs ++ x :: List.drop (j + 1) vs).take j = List.take j vs := by rw [← e2]
  exact rdsL_app h1 (rdsL_cons.mpr ⟨x, _, B, C', rfl, rfl, h2, h3⟩)
theorem rds_objI {H : Hp} {c : Nat} {ns : List Str} {ds : List D} {v : V} {F : List Addr} : Rds G H (.obj c ns ds) v F ↔ ∃ a dx us A, v = .ref a ∧ H a = some (.ins (G.cls c) dx us) ∧ us.map (·.1) = ns ∧ RdsL G H ds (us.map (·.2)) A ∧ F = a :: A := by
  unfold Rds
  exact Iff.rfl
theorem foc_rds : ∀ {p : List Pst} {d : D} {v : V} {F : List Addr} {sd : D} {sv : V} {P A S : List Addr}, Foc G H p d v F sd sv P A S → F = P ++ (A ++ S) ∧ Rds G H sd sv A
  | [], _, _, _, _, _, _, _, _, h => by
    obtain ⟨rfl, rfl, rfl, rfl, rfl, h⟩ := h
    exact ⟨by simp, h⟩
  | i :: p, _, _, _, _, _, _, _, _, h => by
    obtain ⟨a, xs, ds, j, d1, x1, A1, A2, A3, P', S', Q, rfl, h1, h2, h3, h4, h5, h6, h7, rfl, rfl, rfl⟩ := h
    obtain ⟨rfl, h8⟩ := foc_rds h7
    exact ⟨by simp [List.append_assoc], h8⟩
theorem foc_of : ∀ {p : List Pst} {d : D} {v : V} {F : List Addr} {sd : D}, Rds G H d v F → getP p d = some sd → ∃ sv P A S, Foc G H p d v F sd sv P A S
  | [], d, v, F, sd, r, e => by
    cases e
    exact ⟨v, [], F, [], rfl, rfl, rfl, rfl, rfl, r⟩
  | .ix i :: p, .lst ds, v, F, sd, r, e => by
    obtain ⟨a, xs, A, rfl, h1, h2, rfl⟩ := rds_lst.mp r
    have e : (atI ds i).bind (getP p) = some sd := e
    unfold atI at e
    cases h : ixN ds.length i with
    | none => rw [h] at e; cases e
    | some j =>
      rw [h] at e
      have e : (ds[j]?).bind (getP p) = some sd := e
      cases h3 : ds[j]? with
      | none => rw [h3] at e; cases e
      | some d1 =>
        rw [h3] at e
        obtain ⟨x1, A1, A2, A3, g1, g2, g3, g4, rfl⟩ := rdsL_split h2 h3
        obtain ⟨sv, P', A', S', g5⟩ := foc_of g3 (show getP p d1 = some sd from e)
        exact ⟨sv, _, A', _, a, xs, ds, j, d1, x1, A1, A2, A3, P', S', [a], rfl, .inl ⟨rfl, h1, rfl, rfl⟩, h, h3, g1, g2, g4, g5, rfl, rfl, rfl⟩
  | .ix i :: p, .tup ds, v, F, sd, r, e => by
    obtain ⟨a, xs, rfl, h1, h2⟩ := rds_tup.mp r
    have e : (atI ds i).bind (getP p) = some sd := e
    unfold atI at e
    cases h : ixN ds.length i with
    | none => rw [h] at e; cases e
    | some j =>
      rw [h] at e
      have e : (ds[j]?).bind (getP p) = some sd := e
      cases h3 : ds[j]? with
      | none => rw [h3] at e; cases e
      | some d1 =>
        rw [h3] at e
        obtain ⟨x1, A1, A2, A3, g1, g2, g3, g4, rfl⟩ := rdsL_split h2 h3
        obtain ⟨sv, P', A', S', g5⟩ := foc_of g3 (show getP p d1 = some sd from e)
        exact ⟨sv, _, A', _, a, xs, ds, j, d1, x1, A1, A2, A3, P', S', [], rfl, .inr (.inl ⟨rfl, h1, rfl, rfl⟩), h, h3, g1, g2, g4, g5, rfl, rfl, rfl⟩
  | .fl j :: p, .obj c ns ds, v, F, sd, r, e => by
    obtain ⟨a, dx, us, A, rfl, h1, h2, h5, rfl⟩ := rds_objI.mp r
    have e : (ds[j]?).bind (getP p) = some sd := e
    cases h3 : ds[j]? with
    | none => rw [h3] at e; cases e
    | some d1 =>
      rw [h3] at e
      obtain ⟨x1, A1, A2, A3, g1, g2, g3, g4, rfl⟩ := rdsL_split h5 h3
      obtain ⟨sv, P', A', S', g5⟩ := foc_of g3 (show getP p d1 = some sd from e)
      exact ⟨sv, _, A', _, a, _, ds, j, d1, x1, A1, A2, A3, P', S', [a], rfl, .inr (.inr ⟨c, ns, dx, us, rfl, h1, h2, rfl, rfl, rfl⟩), rfl, h3, g1, g2, g4, g5, rfl, rfl, rfl⟩
  | .ix _ :: _, .non, _, _, _, _, e => by cases e
  | .fl _ :: _, .non, _, _, _, _, e => by cases e
  | .ix _ :: _, .bl _, _, _, _, _, e => by cases e
  | .fl _ :: _, .bl _, _, _, _, _, e => by cases e
  | .ix _ :: _, .int _, _, _, _, _, e => by cases e
  | .fl _ :: _, .int _, _, _, _, _, e => by cases e
  | .ix _ :: _, .str _, _, _, _, _, e => by cases e
  | .fl _ :: _, .str _, _, _, _, _, e => by cases e
  | .ix _ :: _, .dct _ _, _, _, _, _, e => by cases e
  | .fl _ :: _, .dct _ _, _, _, _, _, e => by cases e
  | .ix _ :: _, .scr _, _, _, _, _, e => by cases e
  | .fl _ :: _, .scr _, _, _, _, _, e => by cases e
  | .ix _ :: _, .any, _, _, _, _, e => by cases e
  | .fl _ :: _, .any, _, _, _, _, e => by cases e
  | .ix _ :: _, .exn _ _ _, _, _, _, _, e => by cases e
  | .fl _ :: _, .exn _ _ _, _, _, _, _, e => by cases e
  | .ix _ :: _, .obj _ _ _, _, _, _, _, e => by cases e
  | .fl _ :: _, .lst _, _, _, _, _, e => by cases e
  | .fl _ :: _, .tup _, _, _, _, _, e => by cases e
theorem Foc.chg {M : Addr → Prop} (c : Chg M H H') : ∀ {p : List Pst} {d : D} {v : V} {F : List Addr} {sd : D} {sv : V} {P A S : List Addr}, (∀ a ∈ F, ¬ M a) → Foc G H p d v F sd sv P A S → Foc G H' p d v F sd sv P A S
  | [], _, _, _, _, _, _, _, _, n, h => by
    obtain ⟨rfl, rfl, rfl, rfl, rfl, h⟩ := h
    exact ⟨rfl, rfl, rfl, rfl, rfl, Rds.chg c _ _ _ n h⟩
  | i :: p, _, _, _, _, _, _, _, _, n, h => by
    obtain ⟨a, xs, ds, j, d1, x1, A1, A2, A3, P', S', Q, rfl, h1, h2, h3, h4, h5, h6, h7, rfl, rfl, rfl⟩ := h
    refine ⟨a, xs, ds, j, d1, x1, A1, A2, A3, P', S', Q, rfl, ?_, h2, h3, h4, RdsL.chg c _ _ _ (fun b hb => n b (by simp [hb])) h5, RdsL.chg c _ _ _ (fun b hb => n b (by simp [hb])) h6, Foc.chg c (fun b hb => n b (by simp [hb])) h7, rfl, rfl, rfl⟩
    rcases h1 with ⟨h1, h8, h9, h10⟩ | ⟨h1, h8, h9⟩ | ⟨c', ns, dx, us, h1, h8, h11, h12, h9, h10⟩
    · subst h9
      exact .inl ⟨h1, c.keep h8 rfl (n a (by simp)), rfl, h10⟩
    · exact .inr (.inl ⟨h1, SqT.chg c h8, h9⟩)
    · subst h9
      exact .inr (.inr ⟨c', ns, dx, us, h1, c.keep h8 rfl (n a (by simp)), h11, h12, rfl, h10⟩)
theorem foc_set : ∀ {p : List Pst} {d : D} {v : V} {F : List Addr} {sd sd' d' : D} {sv : V} {P A S A' : List Addr}, Foc G H p d v F sd sv P A S → F.Nodup → Chg (fun a => a ∈ A) H H' → Rds G H' sd' sv A' → setP p d sd' = some d' → Rds G H' d' v (P ++ (A' ++ S))
  | [], _, _, _, _, _, _, _, _, _, _, _, h, _, _, r, e => by
    obtain ⟨rfl, rfl, rfl, rfl, rfl, h⟩ := h
    cases e
    simpa using r
  | i :: p, d, v, F, sd, sd', d', sv, P, A, S, A', h, nd, c, r, e => by
    obtain ⟨a, xs, ds, j, d1, x1, A1, A2, A3, P', S', Q, rfl, h1, h2, h3, h4, h5, h6, h7, rfl, rfl, rfl⟩ := h
    obtain ⟨eA, _⟩ := foc_rds h7
    have nd2 : A2.Nodup := by
      refine List.Sublist.nodup ?_ nd
      exact (List.sublist_append_left A2 A3).trans ((List.sublist_append_right A1 _).trans (List.sublist_append_right Q _))
    have hjl : j < ds.length := (List.getElem?_eq_some_iff.mp h3).1
    have hl : xs.length = ds.length := by
      have z1 := rdsL_len h5
      have z2 := rdsL_len h6
      rw [List.length_take, List.length_take] at z1
      rw [List.length_drop, List.length_drop] at z2
      have z4 := (List.getElem?_eq_some_iff.mp h4).1
      omega
    have inA2 : ∀ z ∈ A, z ∈ A2 := fun z hz => by rw [eA]; simp [hz]
    rw [List.nodup_append] at nd
    obtain ⟨_, nd3, ndQ⟩ := nd
    rw [List.nodup_append] at nd3
    obtain ⟨_, nd4, nd1⟩ := nd3
    rw [List.nodup_append] at nd4
    have r1 : RdsL G H' (ds.take j) (xs.take j) A1 := RdsL.chg c _ _ _ (fun z hz hA => nd1 z hz z (by simp [inA2 z hA]) rfl) h5
    have r3 : RdsL G H' (ds.drop (j + 1)) (xs.drop (j + 1)) A3 := RdsL.chg c _ _ _ (fun z hz hA => nd4.2.2 z (inA2 z hA) z hz rfl) h6
    have go : ∀ {d2}, setP p d1 sd' = some d2 → RdsL G H' (ds.set j d2) xs (A1 ++ ((P' ++ (A' ++ S')) ++ A3)) := fun {d2} e2 => rdsL_join hjl hl h4 r1 (foc_set h7 nd2 c r e2) r3
    rcases h1 with ⟨rfl, h8, rfl, hi⟩ | ⟨rfl, h8, rfl, hi⟩ | ⟨c', ns, dx, us, rfl, h8, h11, rfl, rfl, hi⟩
    · obtain ⟨i, rfl⟩ : ∃ q, i = .ix q := by cases i <;> first | exact ⟨_, rfl⟩ | cases hi
      have h2 : ixN ds.length i = some j := h2
      have e : (ixN ds.length i).bind (fun j => (ds[j]?).bind fun d1 => (setP p d1 sd').map fun d2 => D.lst (ds.set j d2)) = some d' := e
      rw [h2] at e
      have e : (ds[j]?).bind (fun d1 => (setP p d1 sd').map fun d2 => D.lst (ds.set j d2)) = some d' := e
      rw [h3] at e
      have e : (setP p d1 sd').map (fun d2 => D.lst (ds.set j d2)) = some d' := e
      cases e2 : setP p d1 sd' with
      | none => rw [e2] at e; cases e
      | some d2 =>
        rw [e2] at e
        cases e
        refine rds_lst.mpr ⟨a, xs, _, rfl, c.keep h8 rfl (fun hA => ndQ a (by simp) a (by simp [inA2 a hA]) rfl), go e2, ?_⟩
        simp [List.append_assoc]
    · obtain ⟨i, rfl⟩ : ∃ q, i = .ix q := by cases i <;> first | exact ⟨_, rfl⟩ | cases hi
      have h2 : ixN ds.length i = some j := h2
      have e : (ixN ds.length i).bind (fun j => (ds[j]?).bind fun d1 => (setP p d1 sd').map fun d2 => D.tup (ds.set j d2)) = some d' := e
      rw [h2] at e
      have e : (ds[j]?).bind (fun d1 => (setP p d1 sd').map fun d2 => D.tup (ds.set j d2)) = some d' := e
      rw [h3] at e
      have e : (setP p d1 sd').map (fun d2 => D.tup (ds.set j d2)) = some d' := e
      cases e2 : setP p d1 sd' with
      | none => rw [e2] at e; cases e
      | some d2 =>
        rw [e2] at e
        cases e
        refine rds_tup.mpr ⟨a, xs, rfl, SqT.chg c h8, ?_⟩
        have z := go e2
        simpa [List.append_assoc] using z
    · obtain ⟨i, rfl⟩ : ∃ q, i = .fl q := by cases i <;> first | exact ⟨_, rfl⟩ | cases hi
      cases h2
      have e : (ds[j]?).bind (fun d1 => (setP p d1 sd').map fun d2 => D.obj c' ns (ds.set j d2)) = some d' := e
      rw [h3] at e
      have e : (setP p d1 sd').map (fun d2 => D.obj c' ns (ds.set j d2)) = some d' := e
      cases e2 : setP p d1 sd' with
      | none => rw [e2] at e; cases e
      | some d2 =>
        rw [e2] at e
        cases e
        refine rds_objI.mpr ⟨a, dx, us, _, rfl, c.keep h8 rfl (fun hA => ndQ a (by simp) a (by simp [inA2 a hA]) rfl), h11, go e2, ?_⟩
        simp [List.append_assoc]
end
end
end VL
set_option maxHeartbeats 4000000
namespace VL
noncomputable section
open PySem PySem.Spec PyProof.Rows L2
open GxR (TabB Tabbed)
variable [LamT]
section
variable {G : Gb} {C : Ctx} {H H' : Hp} {σ : L2.St} {E : Env} {Fs : Nat → List Addr} {i : Nat} {m : Mode} {d d' : D} {v : V} {F' : List Addr}
theorem Rel.write (R : Rel G C H σ E Fs) (e : E[i]? = some (some (m, d))) (hw : m.w = true) (hv : σ[i]? = some (some v)) (c : Chg (fun a => a ∈ Fs i) H H') (rd : Rds G H' d' v F') (nd : F'.Nodup)
    (hF : ∀ a ∈ F', a ∈ Fs i ∨ (C.H0 a = none ∧ ¬ C.T a ∧ ∀ j, j ≠ i → Asg E j → a ∉ Fs j)) : Rel G C H' σ (E.set i (some (m, d'))) (FsSet Fs i F') := by
  have hi := (List.getElem?_eq_some_iff.mp e).1
  obtain ⟨n1, n2, n3⟩ := R.nd i m d e hw
  have gi : (E.set i (some (m, d')))[i]? = some (some (m, d')) := List.getElem?_set_self hi
  have gj : ∀ {j}, j ≠ i → (E.set i (some (m, d')))[j]? = E[j]? := fun {j} h => List.getElem?_set_ne (Ne.symm h)
  refine ⟨by rw [List.length_set]; exact R.len, fun j mj dj ej => ?_, fun j mj dj ej hwj => ?_, fun j mj dj ej => ?_, ?_, ?_, R.pt, fun T hT => c.tab (R.tb T hT)⟩
  · by_cases h : j = i
    · subst h
      rw [gi] at ej
      cases ej
      refine ⟨v, hv, by rw [FsSet_self]; exact rd, fun z => ?_⟩
      obtain ⟨v2, h1, _, h2⟩ := R.rd j _ _ e
      rw [hv] at h1
      cases h1
      exact h2 z
    · rw [gj h] at ej
      obtain ⟨v2, h1, h2, h3⟩ := R.rd j mj dj ej
      exact ⟨v2, h1, by rw [FsSet, if_neg h]; exact Rds.chg c _ _ _ (fun a ha hm => n3 j mj dj h ej a hm ha) h2, h3⟩
  · by_cases h : j = i
    · subst h
      rw [FsSet_self]
      refine ⟨nd, fun a ha hT => ?_, fun l ml dl hl el a ha hb => ?_⟩
      · rcases hF a ha with z | z
        · exact n2 a z hT
        · exact z.2.1 hT
      · rw [gj hl] at el
        rw [FsSet, if_neg hl] at hb
        rcases hF a ha with z | z
        · exact n3 l ml dl hl el a z hb
        · exact z.2.2 l hl ⟨ml, dl, el⟩ hb
    · rw [gj h] at ej
      obtain ⟨h1, h2, h3⟩ := R.nd j mj dj ej hwj
      rw [FsSet, if_neg h]
      refine ⟨h1, h2, fun l ml dl hl el a ha hb => ?_⟩
      by_cases h' : l = i
      · subst h'
        rw [FsSet_self] at hb
        rcases hF a hb with z | z
        · exact h3 l m d hl e a ha z
        · exact z.2.2 j h ⟨mj, dj, ej⟩ ha
      · rw [gj h'] at el
        rw [FsSet, if_neg h'] at hb
        exact h3 l ml dl hl el a ha hb
  · by_cases h : j = i
    · subst h
      rw [gi] at ej
      cases ej
      rw [FsSet_self]
      obtain ⟨h1, h2⟩ := R.nw j _ _ e
      refine ⟨fun z a ha => ?_, fun z a ha => ?_⟩
      · rcases hF a ha with y | y
        · exact h1 z a y
        · exact y.1
      · rcases hF a ha with y | y
        · exact h2 z a y
        · exact .inr y.1
    · rw [gj h] at ej
      rw [FsSet, if_neg h]
      exact R.nw j mj dj ej
  · refine (R.fr.trans c).mono fun q o eo h => ?_
    rcases h with h | h
    · exact h
    · obtain ⟨h1, h2⟩ := R.nw i _ _ e
      cases m with
      | own =>
        rw [h1 rfl q h] at eo
        cases eo
      | io =>
        rcases h2 rfl q h with z | z
        · exact ⟨i, z⟩
        · rw [z] at eo
          cases eo
      | arg => cases hw
      | shr => cases hw
  · refine (R.pr.trans c).mono fun q o eo h => ?_
    rcases h with h | h
    · exact h
    · exact n2 q h
theorem Stp.write (e : E[i]? = some (some (m, d))) (hw : m.w = true) (c : Chg (fun a => a ∈ Fs i) H H') (hF : ∀ a ∈ F', a ∈ Fs i ∨ H a = none) : Stp [i] H H' E (E.set i (some (m, d'))) Fs (FsSet Fs i F') where
  chg := c.mono fun q o _ h => ⟨i, List.mem_singleton.mpr rfl, m, d, e, hw, h⟩
  fs := fun j hj => if_neg fun z => hj (by rw [z]; exact List.mem_singleton.mpr rfl)
  gr := fun j a ha => by
    by_cases h : j = i
    · subst h
      rw [FsSet_self] at ha
      exact hF a ha
    · rw [FsSet, if_neg h] at ha
      exact .inl ha
  env := fun j hj => List.getElem?_set_ne fun z => hj (by rw [z]; exact List.mem_singleton.mpr rfl)
  md := fun j => by
    by_cases h : j = i
    · subst h
      rw [List.getElem?_set_self (List.getElem?_eq_some_iff.mp e).1, e]
      exact ⟨fun m' d2 z => by cases z; exact ⟨_, rfl⟩, fun m' d2 z => by cases z; exact ⟨_, rfl⟩⟩
    · rw [List.getElem?_set_ne (Ne.symm h)]
      exact ⟨fun m' d2 z => ⟨d2, z⟩, fun m' d2 z => ⟨d2, z⟩⟩
end
abbrev PF := Env → Option (List Pst × Env)
def tVP (G : Gb) (M : List Nat) (i : Nat) (pf : PF) : TE := fun σ H Q => ∃ C E Fs, Rel G C H σ E Fs ∧ ∃ p E', pf E = some (p, E') ∧ (∃ m d sd, E'[i]? = some (some (m, d)) ∧ getP p d = some sd) ∧
  ∀ H' Fs' m d v sd sv P A S, Rel G C H' σ E' Fs' → Stp M H H' E E' Fs Fs' → E'[i]? = some (some (m, d)) → σ[i]? = some (some v) → Foc G H' p d v (Fs' i) sd sv P A S → Q sv H'
abbrev VP (G : Gb) (X : Cx) (e : Expr) (M : List Nat) (i : Nat) (pf : PF) : Prop := PE X e (tVP G M i pf)
def pName (i : Nat) : PF := fun E => match E[i]? with
  | some (some _) => some ([], E)
  | _ => none
def hasP (E : Env) (i : Nat) (p : List Pst) : Bool := match E[i]? with
  | some (some (_, d)) => (getP p d).isSome
  | _ => false
def pSub1 (i : Nat) (pf : PF) (f : EF) : PF := fun E => match pf E with
  | some (p, E1) => if hasP E1 i p then (match f E1 with
    | some (.int j, E2) => if hasP E2 i (p ++ [.ix j]) then some (p ++ [.ix j], E2) else none
    | _ => none) else none
  | none => none
theorem hasP_of {E : Env} {i : Nat} {p : List Pst} (h : hasP E i p = true) : ∃ m d sd, E[i]? = some (some (m, d)) ∧ getP p d = some sd := by
  unfold hasP at h
  split at h
  · rename_i m d e
    obtain ⟨sd, hs⟩ := Option.isSome_iff_exists.mp h
    exact ⟨m, d, sd, e, hs⟩
  · cases h
section
variable {G : Gb} {X : Cx} {e b : Expr} {M M' : List Nat} {i : Nat} {k : Kind} {pf : PF} {f : EF} {pos : Pos}
theorem vp_name (h : PE X e (tVar i)) : VP G X e [] i (pName i) := PE.imp h fun σ H Q ⟨C, E, Fs, R, p, E', e, ⟨m, d, sd, e1, e2⟩, q⟩ => by
  unfold pName at e
  split at e
  · cases e
    obtain ⟨v, h1, h2, _⟩ := R.rd i m d e1
    obtain ⟨sv, P, A, S, h3⟩ := foc_of h2 e2
    have h4 := h3
    obtain ⟨_, rfl, _⟩ := h3
    exact ⟨sv, h1, q H Fs m d sv sd sv P A S R Stp.refl e1 h1 h4⟩
  · cases e
theorem foc_det : ∀ {H : Hp} {p : List Pst} {d : D} {v : V} {F : List Addr} {sd : D} {sv : V} {P A S : List Addr}, Foc G H p d v F sd sv P A S → getP p d = some sd
  | H, [], _, _, _, _, _, _, _, _, h => by
    obtain ⟨rfl, _⟩ := h
    rfl
  | H, i :: p, _, _, _, _, _, _, _, _, h => by
    obtain ⟨a, xs, ds, j, d1, x1, A1, A2, A3, P', S', Q, rfl, h1, h2, h3, h4, h5, h6, h7, _⟩ := h
    have z := foc_det h7
    rcases h1 with ⟨rfl, _, _, hi⟩ | ⟨rfl, _, _, hi⟩ | ⟨c', ns, dx, us, rfl, _, _, _, _, hi⟩
    · obtain ⟨i, rfl⟩ : ∃ q, i = .ix q := by cases i <;> first | exact ⟨_, rfl⟩ | cases hi
      have h2 : ixN ds.length i = some j := h2
      show (atI ds i).bind (getP p) = _
      unfold atI
      rw [h2]
      show ((ds[j]?).bind (getP p)) = _
      rw [h3]
      exact z
    · obtain ⟨i, rfl⟩ : ∃ q, i = .ix q := by cases i <;> first | exact ⟨_, rfl⟩ | cases hi
      have h2 : ixN ds.length i = some j := h2
      show (atI ds i).bind (getP p) = _
      unfold atI
      rw [h2]
      show ((ds[j]?).bind (getP p)) = _
      rw [h3]
      exact z
    · obtain ⟨i, rfl⟩ : ∃ q, i = .fl q := by cases i <;> first | exact ⟨_, rfl⟩ | cases hi
      cases h2
      show ((ds[j]?).bind (getP p)) = _
      rw [h3]
      exact z
end
end
end VL
set_option maxHeartbeats 4000000
namespace VL
noncomputable section
open PySem PySem.Spec PyProof.Rows L2
open GxR (TabB Tabbed)
variable [LamT]
def storable (k : Kind) (d : D) : Bool := d.atom || match k with
  | .own => true
  | .top _ => d.flat
  | _ => false
def storL : List Kind → List D → Bool
  | [k], [d] => storable k d
  | _ :: ks, d :: ds => d.atom && storL ks ds
  | [], [] => true
  | _, _ => false
abbrev OPD := D → List D → Option (D × D)
def MutOk (G : Gb) (r : V → List V → Hp → VK → Prop) (op : OPD) : Prop := ∀ (H : Hp) (sd : D) (sv : V) (A : List Addr) (ds : List D) (vs : List V) (B : List Addr) (Q : VK) (sd' res : D), Rds G H sd sv A → RdsL G H ds vs B → A.Nodup → B.Nodup → (∀ a ∈ A, a ∉ B) → op sd ds = some (sd', res) → res.atom = true →
  (∀ v H' A', Rds G H' sd' sv A' → Rds G H' res v [] → A'.Nodup → (∀ a ∈ A', a ∈ A ∨ a ∈ B) → Chg (fun a => a ∈ A) H H' → Q v H') → r sv vs H Q
def tyD (T : String) : D → Bool
  | .lst _ => T == "list"
  | .dct _ _ => T == "dict"
  | _ => false
theorem tyV_of {G : Gb} {H : Hp} {T : String} {d : D} {v : V} {A : List Addr} (r : Rds G H d v A) (h : tyD T d = true) : tyV G.K T v H := by
  cases d <;> unfold tyD at h <;> first | cases h | skip
  · obtain ⟨a, xs, A', rfl, h1, _⟩ := rds_lst.mp r
    exact .inl ⟨by simpa using h, xs, SqL.of h1⟩
  · obtain ⟨a, us, A', rfl, h1, _⟩ := rds_dct.mp r
    exact .inr (.inr (.inl ⟨by simpa using h, .inl ⟨us, h1⟩⟩))
def hasT (T : String) (E : Env) (i : Nat) (p : List Pst) : Bool := match E[i]? with
  | some (some (_, d)) => (match getP p d with
    | some sd => tyD T sd
    | none => false)
  | _ => false
theorem hasT_of {T : String} {E : Env} {i : Nat} {p : List Pst} (h : hasT T E i p = true) : ∃ m d sd, E[i]? = some (some (m, d)) ∧ getP p d = some sd ∧ tyD T sd = true := by
  unfold hasT at h
  split at h
  · rename_i m d e
    split at h
    · rename_i sd e2
      exact ⟨m, d, sd, e, e2, h⟩
    · cases h
  · cases h
def eMut (T : String) (i : Nat) (pf : PF) (ks : List Kind) (l : LF) (op : OPD) : EF := fun E => match pf E with
  | some (p, E1) => if hasT T E1 i p then (match l E1 with
    | some (ds, E2) => if storL ks ds then (match E2[i]? with
      | some (some (m, d)) => if m.w then (match getP p d with
        | some sd => (match op sd ds with
          | some (sd', res) => if res.atom then (match setP p d sd' with
            | some d' => some (res, E2.set i (some (m, d')))
            | none => none) else none
          | none => none)
        | none => none) else none
      | _ => none) else none
    | none => none) else none
  | none => none
section
variable {G : Gb} {σ : L2.St} {H H1 : Hp} {E : Env} {Fs : Nat → List Addr}
theorem storL_ok {C : Ctx} : ∀ {ks : List Kind} {ds : List D} {vs : List V} {FF : List (List Addr)}, storL ks ds = true → ArgsOk G σ H H1 E Fs ks ds vs FF → FF.flatten.Nodup ∧ ∀ a ∈ FF.flatten, Loose H E Fs a
  | [], _, _, _, _, h => by
    obtain ⟨rfl, rfl, rfl⟩ := h
    exact ⟨List.nodup_nil, fun a ha => by cases ha⟩
  | [k], _, _, _, hs, h => by
    obtain ⟨d, ds', v, vs', F, FF', rfl, rfl, rfl, h4, h5, h6, rfl, rfl, rfl⟩ := h
    have hs : storable k d = true := hs
    unfold storable at hs
    rw [Bool.or_eq_true] at hs
    simp only [List.flatten_cons, List.flatten_nil, List.append_nil]
    rcases hs with hs | hs
    · rw [Rds.atom _ _ _ hs h4]
      exact ⟨List.nodup_nil, fun a ha => by cases ha⟩
    · cases k with
      | own => exact ⟨h5.1, fun a ha => (h5.2 a ha).elim (fun ⟨_, z, _⟩ => by cases z) id⟩
      | top S =>
        obtain ⟨a, rfl, hn⟩ := flat_one hs h4
        refine ⟨by simp, fun b hb => ?_⟩
        rw [List.mem_singleton.mp hb]
        exact h5.2 a [] hn rfl
      | sub i => cases hs
      | vw S => cases hs
      | ref i => cases hs
  | k :: k2 :: ks, _, _, _, hs, h => by
    obtain ⟨d, ds', v, vs', F, FF', rfl, rfl, rfl, h4, h5, h6, h7⟩ := h
    have hs : (d.atom && storL (k2 :: ks) ds') = true := by
      cases ds' with
      | nil =>
        obtain ⟨d2, _, _, _, _, _, z, _⟩ := h7
        cases z
      | cons d2 ds2 => exact hs
    rw [Bool.and_eq_true] at hs
    rw [List.flatten_cons, Rds.atom _ _ _ hs.1 h4, List.nil_append]
    exact storL_ok (C := C) hs.2 h7
end
section
variable {G : Gb} {X : Cx} {o e : Expr} {es : List Expr} {M M' : List Nat} {i : Nat} {ks : List Kind} {pf : PF} {l : LF} {op : OPD} {r : V → List V → Hp → VK → Prop}
theorem mut_of {T : String} {σ : L2.St} {H : Hp} {Q : VK} (P : MutOk G r op) (hi : i ∉ M') (h : tV G (M ++ (M' ++ [i])) .own (eMut T i pf ks l op) σ H Q) :
    tVP G M i pf σ H fun x H1 => tyV G.K T x H1 ∧ tVL G M' ks l σ H1 fun xs H2 => r x xs H2 Q := by
  obtain ⟨C, E, Fs, R, d, E', e, q⟩ := h
  unfold eMut at e
  split at e
  · rename_i p E1 e1
    split at e
    · rename_i hh
      split at e
      · rename_i ds E2 e2
        split at e
        · rename_i hst
          split at e
          · rename_i m dd e3
            split at e
            · rename_i hw
              split at e
              · rename_i sd e4
                split at e
                · rename_i sd' res e5
                  split at e
                  · rename_i ha
                    split at e
                    · rename_i d' e6
                      cases e
                      obtain ⟨m9, d9, s9, k1, k2, k3⟩ := hasT_of hh
                      refine ⟨C, E, Fs, R, p, E1, e1, ⟨m9, d9, s9, k1, k2⟩, fun H1 Fs1 m1 d1 v sd1 sv Pf A S R1 s1 em ev hf => ?_⟩
                      obtain ⟨eF, rd1⟩ := foc_rds hf
                      have g1 := foc_det hf
                      have same : ∀ {H2 Fs2 FF vs}, Rel G C H2 σ E2 Fs2 → Stp M' H1 H2 E1 E2 Fs1 Fs2 → ArgsOk G σ H1 H2 E2 Fs2 ks ds vs FF → m1 = m ∧ d1 = dd ∧ sd1 = sd := fun {H2 Fs2 FF vs} R2 s2 a2 => by
                        have em2 : E2[i]? = some (some (m1, d1)) := by rw [s2.env i hi]; exact em
                        rw [e3] at em2
                        cases em2
                        rw [e4] at g1
                        cases g1
                        exact ⟨rfl, rfl, rfl⟩
                      refine ⟨?_, C, E1, Fs1, R1, ds, E2, e2, fun vs H2 Fs2 FF R2 s2 a2 => ?_⟩
                      · rw [k1] at em
                        cases em
                        rw [k2] at g1
                        cases g1
                        exact tyV_of rd1 k3
                      · obtain ⟨rfl, rfl, rfl⟩ := same R2 s2 a2
                        have fs2 := s2.fs i hi
                        have em2 : E2[i]? = some (some (m1, d1)) := e3
                        have ap : ∀ a ∈ Fs1 i, ¬ ∃ j ∈ M', ∃ m d, E1[j]? = some (some (m, d)) ∧ m.w = true ∧ a ∈ Fs1 j := fun a ha ⟨j, hj, mj, dj, h1, h2, h3⟩ => (R1.nd j mj dj h1 h2).2.2 i m1 d1 (fun z => hi (by rw [z]; exact hj)) em a h3 ha
                        have hf2 := Foc.chg s2.chg ap hf
                        obtain ⟨_, rd2⟩ := foc_rds hf2
                        obtain ⟨ndB, loB⟩ := storL_ok (C := C) hst a2
                        have nd2 := (R2.nd i m1 d1 em2 hw).1
                        have ndF : (Fs1 i).Nodup := by rw [← fs2]; exact nd2
                        have ndA : A.Nodup := by
                          rw [eF] at ndF
                          exact ((List.sublist_append_left A S).trans (List.sublist_append_right Pf _)).nodup ndF
                        have inA : ∀ a ∈ A, a ∈ Fs1 i := fun a ha => by rw [eF]; simp [ha]
                        refine P H2 sd1 sv A ds vs FF.flatten Q sd' _ rd2 a2.rds ndA ndB (fun a ha hb => ?_) e5 ha fun v3 H3 A' rA' rR ndA' inA' c3 => ?_
                        · exact (loB a hb).2 i ⟨m1, d1, em2⟩ (by rw [fs2]; exact inA a ha)
                        · have rd3 := foc_set hf2 ndF c3 rA' e6
                          have c3' : Chg (fun a => a ∈ Fs2 i) H2 H3 := c3.mono fun q o _ h => by rw [fs2]; exact inA q h
                          have split_ : ∀ a ∈ Pf ++ (A' ++ S), a ∈ Fs2 i ∨ a ∈ FF.flatten := fun a ha => by
                            rw [fs2, eF]
                            simp only [List.mem_append] at ha ⊢
                            rcases ha with z | z | z
                            · exact .inl (.inl z)
                            · rcases inA' a z with y | y
                              · exact .inl (.inr (.inl y))
                              · exact .inr y
                            · exact .inl (.inr (.inr z))
                          have ndN : (Pf ++ (A' ++ S)).Nodup := by
                            have ndF' := ndF
                            rw [eF, List.nodup_append] at ndF'
                            obtain ⟨n1, n2, n3⟩ := ndF'
                            rw [List.nodup_append] at n2
                            obtain ⟨_, n5, n6⟩ := n2
                            have ofB : ∀ {a}, a ∈ FF.flatten → a ∉ Fs1 i := fun {a} hb hm => (loB a hb).2 i ⟨m1, d1, em2⟩ (by rw [fs2]; exact hm)
                            rw [List.nodup_append]
                            refine ⟨n1, ?_, fun a ha b hb eab => ?_⟩
                            · rw [List.nodup_append]
                              refine ⟨ndA', n5, fun a ha b hb eab => ?_⟩
                              subst eab
                              rcases inA' a ha with y | y
                              · exact n6 a y a hb rfl
                              · exact ofB y (by rw [eF]; simp [hb])
                            · subst eab
                              rcases List.mem_append.mp hb with z | z
                              · rcases inA' a z with y | y
                                · exact n3 a ha a (by simp [y]) rfl
                                · exact ofB y (by rw [eF]; simp [ha])
                              · exact n3 a ha a (by simp [z]) rfl
                          have R3 := R2.write em2 hw ev c3' rd3 ndN fun a ha => by
                            rcases split_ a ha with z | z
                            · exact .inl z
                            · have l := loB a z
                              have hn := R1.hn a l.1
                              exact .inr ⟨hn.1, hn.2, fun j _ hj => l.2 j hj⟩
                          have s3 : Stp (M' ++ [i]) H1 H3 E1 (E2.set i (some (m1, d'))) Fs1 (FsSet Fs2 i (Pf ++ (A' ++ S))) := by
                            have hi2 : i < E2.length := (List.getElem?_eq_some_iff.mp em2).1
                            refine ⟨(s2.chg.trans c3').mono fun q o _ h => ?_, fun j hj => ?_, fun j a ha => ?_, fun j hj => ?_, fun j => ?_⟩
                            · rcases h with ⟨j, hj, z⟩ | z
                              · exact ⟨j, List.mem_append_left _ hj, z⟩
                              · exact ⟨i, by simp, m1, d1, em, hw, by rw [← fs2]; exact z⟩
                            · have hji : j ≠ i := fun z => hj (by simp [z])
                              show (if j = i then _ else Fs2 j) = Fs1 j
                              rw [if_neg hji]
                              exact s2.fs j fun z => hj (by simp [z])
                            · by_cases hji : j = i
                              · subst hji
                                rw [FsSet_self] at ha
                                rcases split_ a ha with z | z
                                · rw [fs2] at z
                                  exact .inl z
                                · exact .inr (loB a z).1
                              · have ha : a ∈ (if j = i then (Pf ++ (A' ++ S)) else Fs2 j) := ha
                                rw [if_neg hji] at ha
                                exact s2.gr j a ha
                            · have hji : j ≠ i := fun z => hj (by simp [z])
                              rw [List.getElem?_set_ne (Ne.symm hji)]
                              exact s2.env j fun z => hj (by simp [z])
                            · by_cases hji : j = i
                              · subst hji
                                rw [List.getElem?_set_self hi2, em]
                                exact ⟨fun m' d2 z => by cases z; exact ⟨_, rfl⟩, fun m' d2 z => by cases z; exact ⟨_, rfl⟩⟩
                              · rw [List.getElem?_set_ne (Ne.symm hji)]
                                exact s2.md j
                          exact q v3 H3 _ [] R3 (s1.trans s3) rR ⟨List.nodup_nil, fun a ha => by cases ha⟩
                    · cases e
                  · cases e
                · cases e
              · cases e
            · cases e
          · cases e
        · cases e
      · cases e
    · cases e
  · cases e
end
end
end VL
set_option maxHeartbeats 4000000
namespace VL
noncomputable section
open PySem PySem.Spec PyProof.Rows L2
open GxR (TabB Tabbed)
variable [LamT]
section
variable {G : Gb} {X : Cx} {o e : Expr} {es : List Expr} {M M' : List Nat} {i : Nat} {ks : List Kind} {pf : PF} {l : LF} {op : OPD} {r : V → List V → Hp → VK → Prop} {name : Str} {apos cpos : Pos} {T id : String}
theorem ve_mut (x : XOk G X) (pa : PlainAttrs T) (slot : Slot T name id) (hty : typeOf (.builtin id) = pure (.type "method_descriptor")) (hm : MtR X id r) (P : MutOk G r op) (ho : VP G X o M i pf) (ha : VL G X (e :: es) M' ks l) (hi : (!M'.contains i) = true := by rfl)
    (hbase : attributeBase o name X.env (eval o X.env) = eval o X.env := by rfl)
    (hfew : ((backTo cpos (starEach (e :: es) X.env)).all (fun x => !x.1) && (backToKw cpos (keywordEach [] X.env)).all (fun x => x.1.isSome)
      && decide ((e :: es).length + ([] : List Keyword).length + (if ([] : List Keyword).isEmpty then 0 else 1) < 30)) = true := by rfl)
    (hline : (apos.endLine == cpos.line) = true := by rfl) (hs : starEach (e :: es) X.env = (false, eval e X.env) :: starEach es X.env := by rfl) (hplain : (backTo cpos (starEach es X.env)).any (·.1) = false := by rfl) :
    VE G X (.Call (.Attribute o name apos) (e :: es) [] cpos) (M ++ (M' ++ [i])) .own (eMut T i pf ks l op) :=
  PE.imp (pe_bm pa slot hty hm ho ha hbase hfew hline hs hplain) fun σ H Q h => by
    have z := mut_of P (by simpa using hi) h
    unfold tBM
    rw [x.K]
    exact z
theorem mut_lst {H : Hp} {ds' : List D} {a : Addr} {xs ys : List V} {A A' : List Addr} {Q : VK} {res : D} {v : V} (h1 : H a = some (.lst xs)) (hr : ∀ G H, Rds G H res v []) (r' : RdsL G H ds' ys A') (nd : (a :: A').Nodup) (inA : ∀ z ∈ A', z ∈ A)
    (q : ∀ H' A', Rds G H' (.lst ds') (.ref a) A' → Rds G H' res v [] → A'.Nodup → (∀ z ∈ A', z ∈ a :: A) → Chg (fun z => z = a) H H' → Q v H') : Q v (upd H a (.lst ys)) := by
  have c : Chg (fun z => z = a) H (upd H a (.lst ys)) := Chg.put h1 rfl rfl
  rw [List.nodup_cons] at nd
  refine q _ (a :: A') (rds_lst.mpr ⟨a, ys, A', rfl, upd_same, RdsL.chg c _ _ _ (fun z hz e => nd.1 (by rw [← e]; exact hz)) r', rfl⟩) (hr _ _) (List.nodup_cons.mpr nd) (fun z hz => ?_) c
  rcases List.mem_cons.mp hz with rfl | hz
  · exact List.mem_cons_self
  · exact List.mem_cons_of_mem _ (inA z hz)
def opApp : OPD
  | .lst ds, [d] => if sl (decide (ds.length < sizeLine)) then some (.lst (ds ++ [d]), .non) else none
  | _, _ => none
theorem mut_append : MutOk G rAppend opApp := fun H sd sv A ds vs B Q sd' res r1 r2 ndA ndB ap e ha q => by
  unfold opApp at e
  split at e
  · split at e
    · rename_i ds d hl
      replace hl := sl_iff.mp hl
      cases e
      obtain ⟨a, xs, A', rfl, h1, h2, rfl⟩ := rds_lst.mp r1
      obtain ⟨y, rfl, h3⟩ := rdsL1 r2
      refine ⟨a, xs, y, rfl, rfl, h1, by rw [rdsL_len h2]; exact hl, ?_⟩
      have r' : RdsL G H (ds ++ [d]) (xs ++ [y]) (A' ++ B) := rdsL_app h2 (rdsL_cons.mpr ⟨y, [], B, [], rfl, by simp, h3, rdsL_nil.mpr ⟨rfl, rfl⟩⟩)
      refine mut_lst (res := .non) (A := A' ++ B) h1 (fun _ _ => rds_non.mpr ⟨rfl, rfl⟩) r' ?_ (fun z hz => hz) fun H' A2 g1 g2 g3 g4 g5 => q _ H' A2 g1 g2 g3 (fun z hz => ?_) (g5.mono fun q o _ h => by rw [h]; exact List.mem_cons_self)
      · rw [← List.cons_append, List.nodup_append]
        exact ⟨ndA, ndB, fun z hz w hw e => ap z hz (by rw [e]; exact hw)⟩
      · rcases List.mem_cons.mp (g4 z hz) with rfl | y
        · exact .inl List.mem_cons_self
        · rcases List.mem_append.mp y with y | y
          · exact .inl (List.mem_cons_of_mem _ y)
          · exact .inr y
    · cases e
  · cases e
def opIns : OPD
  | .lst ds, [.int i, d] => if sl (decide (ds.length < sizeLine ∧ 0 ≤ i ∧ i < 2 ^ 63)) then some (.lst (ds.take i.toNat ++ [d] ++ ds.drop i.toNat), .non) else none
  | _, _ => none
abbrev rInsert : V → List V → Hp → VK → Prop := fun x vs H Q => ∃ (l : Addr) (xs : List V) (i : Int) (y : V), x = .ref l ∧ vs = [.int i, y] ∧ H l = some (.lst xs) ∧ xs.length < sizeLine ∧ 0 ≤ i ∧ i < 2 ^ 63 ∧
    Q .non (upd H l (.lst (xs.take i.toNat ++ [y] ++ xs.drop i.toNat)))
theorem rdsL_cutAt {H : Hp} : ∀ {ds : List D} {vs : List V} {F : List Addr} (n : Nat), RdsL G H ds vs F → ∃ A B, RdsL G H (ds.take n) (vs.take n) A ∧ RdsL G H (ds.drop n) (vs.drop n) B ∧ F = A ++ B
  | _, _, F, 0, h => ⟨[], F, rdsL_nil.mpr ⟨rfl, rfl⟩, h, rfl⟩
  | [], _, F, n + 1, h => by
    obtain ⟨rfl, rfl⟩ := rdsL_nil.mp h
    exact ⟨[], [], h, h, rfl⟩
  | d :: ds, _, F, n + 1, h => by
    obtain ⟨x, r, A, B, rfl, rfl, h1, h2⟩ := rdsL_cons.mp h
    obtain ⟨A', B', h3, h4, rfl⟩ := rdsL_cutAt n h2
    exact ⟨A ++ A', B', rdsL_cons.mpr ⟨x, _, A, A', rfl, rfl, h1, h3⟩, h4, by rw [List.append_assoc]⟩
theorem mut_insert : MutOk G rInsert opIns := fun H sd sv A ds vs B Q sd' res r1 r2 ndA ndB ap e ha q => by
  unfold opIns at e
  split at e
  · split at e
    · rename_i ds i d hl
      replace hl := sl_iff.mp hl
      cases e
      obtain ⟨a, xs, A', rfl, h1, h2, rfl⟩ := rds_lst.mp r1
      obtain ⟨y0, y, B0, B1, rfl, rfl, h0, h3⟩ := rdsL2 r2
      obtain ⟨rfl, rfl⟩ := rds_int.mp h0
      refine ⟨a, xs, i, y, rfl, rfl, h1, by rw [rdsL_len h2]; exact hl.1, hl.2.1, hl.2.2, ?_⟩
      obtain ⟨C1, C2, h4, h5, rfl⟩ := rdsL_cutAt i.toNat h2
      have r' : RdsL G H (ds.take i.toNat ++ [d] ++ ds.drop i.toNat) (xs.take i.toNat ++ [y] ++ xs.drop i.toNat) ((C1 ++ B1) ++ C2) := rdsL_app (rdsL_app h4 (rdsL_cons.mpr ⟨y, [], B1, [], rfl, by simp, h3, rdsL_nil.mpr ⟨rfl, rfl⟩⟩)) h5
      rw [List.nil_append] at ndB ap
      refine mut_lst (res := .non) (A := (C1 ++ B1) ++ C2) h1 (fun _ _ => rds_non.mpr ⟨rfl, rfl⟩) r' ?_ (fun z hz => hz) fun H' A2 g1 g2 g3 g4 g5 => q _ H' A2 g1 g2 g3 (fun z hz => ?_) (g5.mono fun q o _ h => by rw [h]; exact List.mem_cons_self)
      · rw [List.nodup_cons, List.nodup_append] at ndA ⊢
        obtain ⟨n1, n2, n3, n4⟩ := ndA
        refine ⟨fun hm => ?_, ?_, n3, fun z hz w hw e => ?_⟩
        · rcases List.mem_append.mp hm with hm | hm
          · rcases List.mem_append.mp hm with hm | hm
            · exact n1 (List.mem_append_left _ hm)
            · exact ap a List.mem_cons_self hm
          · exact n1 (List.mem_append_right _ hm)
        · rw [List.nodup_append]
          exact ⟨n2, ndB, fun z hz w hw e => ap z (List.mem_cons_of_mem _ (List.mem_append_left _ hz)) (by rw [e]; exact hw)⟩
        · rcases List.mem_append.mp hz with hz | hz
          · exact n4 z hz w hw e
          · exact ap w (List.mem_cons_of_mem _ (List.mem_append_right _ hw)) (by rw [← e]; exact hz)
      · rcases List.mem_cons.mp (g4 z hz) with rfl | y
        · exact .inl List.mem_cons_self
        · rcases List.mem_append.mp y with y | y
          · rcases List.mem_append.mp y with y | y
            · exact .inl (List.mem_cons_of_mem _ (List.mem_append_left _ y))
            · exact .inr (by simpa using y)
          · exact .inl (List.mem_cons_of_mem _ (List.mem_append_right _ y))
    · cases e
  · cases e
def opPop : OPD
  | .lst ds, [] => match ds[ds.length - 1]? with
    | some d => some (.lst ds.dropLast, d)
    | none => none
  | .lst ds, [.int i] => if sl (decide (-(2 ^ 63) ≤ i ∧ i < 2 ^ 63)) then (match seqIndex? i ds.length with
    | some k => (match ds[k]? with
      | some d => some (.lst (ds.eraseIdx k), d)
      | none => none)
    | none => none) else none
  | _, _ => none
def opClear : OPD
  | .lst _, [] => some (.lst [], .non)
  | _, _ => none
def opExt : OPD
  | .lst ds, [.lst es] => if sl (decide (ds.length + es.length ≤ sizeLine)) then some (.lst (ds ++ es), .non) else none
  | _, _ => none
end
end
end VL
set_option maxHeartbeats 4000000
namespace VL
noncomputable section
open PySem PySem.Spec PyProof.Rows L2
open GxR (TabB Tabbed)
variable [LamT]
def putKD : List Key → List D → Key → D → List Key × List D
  | k' :: ks, d' :: ds, k, d => if k' = k then (k' :: ks, d :: ds) else (k' :: (putKD ks ds k d).1, d' :: (putKD ks ds k d).2)
  | _, _, k, d => ([k], [d])
theorem putK_cons {us : List (Key × V)} {k k' : Key} {v v' : V} (hn : k' ∉ us.map (·.1)) : putK ((k', v') :: us) k v = if k' = k then (k', v) :: us else (k', v') :: putK us k v := by
  by_cases h : k' = k
  · subst h
    rw [if_pos rfl]
    unfold putK
    rw [if_pos (by simp)]
    rw [List.map_cons, if_pos rfl]
    have : us.map (fun kv => if kv.1 = k' then (kv.1, v) else kv) = us := by
      rw [List.map_congr_left (g := id)]
      · simp
      · intro a ha
        rw [if_neg fun z => hn (by rw [← z]; exact List.mem_map_of_mem ha)]
        rfl
    rw [this]
  · rw [if_neg h]
    unfold putK
    have e : (((k', v') :: us).any fun kv => decide (kv.1 = k)) = us.any fun kv => decide (kv.1 = k) := by simp [h]
    rw [e]
    split
    · rw [List.map_cons, if_neg h]
    · rfl
section
variable {G : Gb} {X : Cx}
theorem rdsL_putK {H : Hp} {k : Key} {d : D} {v : V} {B : List Addr} : ∀ {us : List (Key × V)} {ds : List D} {A : List Addr}, RdsL G H ds (us.map (·.2)) A → (us.map (·.1)).Nodup → Rds G H d v B → A.Nodup → B.Nodup → (∀ a ∈ A, a ∉ B) →
    (putK us k v).map (·.1) = (putKD (us.map (·.1)) ds k d).1 ∧ (putKD (us.map (·.1)) ds k d).1.Nodup ∧ (∀ x ∈ (putKD (us.map (·.1)) ds k d).1, x = k ∨ x ∈ us.map (·.1)) ∧ ∃ A', RdsL G H (putKD (us.map (·.1)) ds k d).2 ((putK us k v).map (·.2)) A' ∧ A'.Nodup ∧ ∀ a ∈ A', a ∈ A ∨ a ∈ B
  | [], ds, A, h, nk, rb, nA, nB, ap => by
    have e := rdsL_len h
    cases ds with
    | cons _ _ => simp at e
    | nil =>
      refine ⟨rfl, by simp [putKD], fun x hx => .inl (by simpa [putKD] using hx), B, ?_, nB, fun a ha => .inr ha⟩
      exact rdsL_cons.mpr ⟨v, [], B, [], rfl, by simp, rb, rdsL_nil.mpr ⟨rfl, rfl⟩⟩
  | (k', v') :: us, ds, A, h, nk, rb, nA, nB, ap => by
    cases ds with
    | nil => exact absurd (rdsL_len h) (by simp)
    | cons d' ds =>
      obtain ⟨x, r, A1, A2, e, rfl, h1, h2⟩ := rdsL_cons.mp h
      cases e
      rw [List.map_cons, List.nodup_cons] at nk
      rw [List.nodup_append] at nA
      rw [putK_cons nk.1]
      by_cases hk : k' = k
      · rw [if_pos hk]
        simp only [List.map_cons, putKD, if_pos hk]
        refine ⟨trivial, List.nodup_cons.mpr nk, fun x hx => .inr hx, B ++ A2, rdsL_cons.mpr ⟨v, _, B, A2, rfl, rfl, rb, h2⟩, ?_, fun a ha => ?_⟩
        · rw [List.nodup_append]
          exact ⟨nB, nA.2.1, fun z hz w hw e => ap w (List.mem_append_right _ hw) (by rw [← e]; exact hz)⟩
        · rcases List.mem_append.mp ha with z | z
          · exact .inr z
          · exact .inl (List.mem_append_right _ z)
      · rw [if_neg hk]
        simp only [List.map_cons, putKD, if_neg hk]
        obtain ⟨g1, g2, g3, A', g4, g5, g6⟩ := rdsL_putK (k := k) (d := d) h2 nk.2 rb nA.2.1 nB (fun a ha => ap a (List.mem_append_right _ ha))
        refine ⟨by rw [g1], List.nodup_cons.mpr ⟨fun hm => ?_, g2⟩, fun x hx => ?_, A1 ++ A', rdsL_cons.mpr ⟨v', _, A1, A', rfl, rfl, h1, g4⟩, ?_, fun a ha => ?_⟩
        · rcases g3 k' hm with z | z
          · exact hk z
          · exact nk.1 z
        · rcases List.mem_cons.mp hx with z | z
          · exact .inr (by rw [z]; exact List.mem_cons_self)
          · rcases g3 x z with y | y
            · exact .inl y
            · exact .inr (List.mem_cons_of_mem _ y)
        · rw [List.nodup_append]
          refine ⟨nA.1, g5, fun z hz w hw e => ?_⟩
          rcases g6 w hw with y | y
          · exact nA.2.2 z hz w y e
          · exact ap z (List.mem_append_left _ hz) (by rw [e]; exact y)
        · rcases List.mem_append.mp ha with z | z
          · exact .inl (List.mem_append_left _ z)
          · rcases g6 a z with y | y
            · exact .inl (List.mem_append_right _ y)
            · exact .inr y
def opSet : OPD
  | .lst ds, [.int k, d] => (match ixN ds.length k with
    | some j => some (.lst (ds.set j d), .non)
    | none => none)
  | .dct ks ds, [kd, d] => (match keyD kd with
    | some k => if sl (decide (ks.length < sizeLine)) then some (.dct (putKD ks ds k d).1 (putKD ks ds k d).2, .non) else none
    | none => none)
  | _, _ => none
abbrev tSetAll : V → V → V → Hp → (Hp → Prop) → Prop := fun o i v H Q => rSetL o i v H Q ∨ ∃ a H', o = .ref a ∧ DPut H a i v H' ∧ Q H'
theorem pset_all (x : XOk G X) : PSet X tSetAll := by
  intro pins s σ H o i v ov iv u Q I ro ri rv h
  rcases h with h | ⟨a, H', rfl, hp, q⟩
  · exact set_list pins s σ H o i v ov iv u Q I ro ri rv h
  · cases ro
    exact d_setItem (by have := x.un; omega) I hp ri rv fun s' I' => ⟨H', I', q⟩
theorem mut_set : MutOk G (fun x vs H Q => ∃ i v, vs = [i, v] ∧ tSetAll x i v H (Q .non)) opSet := fun H sd sv A ds vs B Q sd' res r1 r2 ndA ndB ap e ha q => by
  unfold opSet at e
  split at e
  · rename_i ds k d
    split at e
    · rename_i j ej
      cases e
      obtain ⟨a, xs, A', rfl, h1, h2, rfl⟩ := rds_lst.mp r1
      obtain ⟨y0, y, B0, B1, rfl, rfl, h0, h3⟩ := rdsL2 r2
      obtain ⟨rfl, rfl⟩ := rds_int.mp h0
      rw [List.nil_append] at ndB ap
      have hl := rdsL_len h2
      obtain ⟨_, hj, _⟩ := ixN_seq ej
      obtain ⟨x0, A1, A2, A3, g1, g2, g3, g4, rfl⟩ := rdsL_split h2 (List.getElem?_eq_getElem hj)
      refine ⟨_, _, rfl, .inl ⟨a, xs, k, j, rfl, rfl, h1, by rw [hl]; exact ej, ?_⟩⟩
      have hjx : j < (xs.set j y).length := by rw [List.length_set, hl]; exact hj
      have r' : RdsL G H (ds.set j d) (xs.set j y) (A1 ++ (B1 ++ A3)) := by
        refine rdsL_join hj (by rw [List.length_set]; exact hl) (List.getElem?_set_self (by rw [hl]; exact hj)) ?_ h3 ?_
        · rw [List.take_set_of_le (Nat.le_refl _)]
          exact g2
        · rw [List.drop_set_of_lt (Nat.lt_succ_self _)]
          exact g4
      refine mut_lst (res := .non) (A := A1 ++ (B1 ++ A3)) h1 (fun _ _ => rds_non.mpr ⟨rfl, rfl⟩) r' ?_ (fun z hz => hz) fun H' A2 g1 g2 g3 g4 g5 => q _ H' A2 g1 g2 g3 (fun z hz => ?_) (g5.mono fun q o _ h => by rw [h]; exact List.mem_cons_self)
      · rw [List.nodup_cons] at ndA ⊢
        obtain ⟨n1, n2⟩ := ndA
        rw [List.nodup_append] at n2 ⊢
        obtain ⟨n3, n4, n5⟩ := n2
        rw [List.nodup_append] at n4
        refine ⟨fun hm => ?_, n3, ?_, fun z hz w hw e => ?_⟩
        · rcases List.mem_append.mp hm with hm | hm
          · exact n1 (by simp [hm])
          · rcases List.mem_append.mp hm with hm | hm
            · exact ap a List.mem_cons_self hm
            · exact n1 (by simp [hm])
        · rw [List.nodup_append]
          exact ⟨ndB, n4.2.1, fun z hz w hw e => ap w (by simp [hw]) (by rw [← e]; exact hz)⟩
        · rcases List.mem_append.mp hw with hw | hw
          · exact ap z (by simp [hz]) (by rw [e]; exact hw)
          · exact n5 z hz w (by simp [hw]) e
      · rcases List.mem_cons.mp (g4 z hz) with rfl | y
        · exact .inl List.mem_cons_self
        · rcases List.mem_append.mp y with y | y
          · exact .inl (by simp [y])
          · rcases List.mem_append.mp y with y | y
            · exact .inr (by simpa using y)
            · exact .inl (by simp [y])
    · cases e
  · rename_i ks ds kd d
    split at e
    · rename_i k ek
      split at e
      · rename_i hl
        replace hl := sl_iff.mp hl
        cases e
        obtain ⟨a, us, A', rfl, h1, ⟨rfl, hnd⟩, h2, rfl⟩ := rds_dct.mp r1
        obtain ⟨y0, y, B0, B1, rfl, rfl, h0, h3⟩ := rdsL2 r2
        have ey := rds_key ek h0
        subst ey
        have eB : B0 = [] := by
          cases kd <;> unfold keyD at ek <;> first | cases ek | skip
          · exact (rds_int.mp h0).2
          · exact (rds_str.mp h0).2
        subst eB
        rw [List.nil_append] at ndB ap
        rw [List.nodup_cons] at ndA
        obtain ⟨g1, g2, _, A2, g4, g5, g6⟩ := rdsL_putK (k := k) (d := d) h2 hnd h3 ndA.2 ndB (fun z hz => ap z (List.mem_cons_of_mem _ hz))
        refine ⟨_, _, rfl, .inr ⟨a, _, rfl, DPut.k h1 (by simpa using hl), ?_⟩⟩
        have c : Chg (fun z => z = a) H (upd H a (.dK (putK us k y))) := Chg.put h1 rfl rfl
        have naA : a ∉ A2 := fun hm => by
          rcases g6 a hm with z | z
          · exact ndA.1 z
          · exact ap a List.mem_cons_self z
        refine q _ _ (a :: A2) (rds_dct.mpr ⟨a, _, A2, rfl, upd_same, ⟨g1, g2⟩, RdsL.chg c _ _ _ (fun z hz e => naA (by rw [← e]; exact hz)) g4, rfl⟩) (rds_non.mpr ⟨rfl, rfl⟩) (List.nodup_cons.mpr ⟨naA, g5⟩) (fun z hz => ?_) (c.mono fun q o _ h => by rw [h]; exact List.mem_cons_self)
        rcases List.mem_cons.mp hz with rfl | hz
        · exact .inl List.mem_cons_self
        · rcases g6 z hz with y | y
          · exact .inl (List.mem_cons_of_mem _ y)
          · exact .inr (by simpa using y)
      · cases e
    · cases e
  · cases e
def sSetIt (i : Nat) (k : Kind) (f : EF) (pf : PF) (g : EF) : SF := fun E => match f E with
  | some (d, E1) => (match pf E1 with
    | some (p, E2) => if hasP E2 i p then (match g E2 with
      | some (ix, E3) => if storable k d && ix.atom then (match E3[i]? with
        | some (some (m, dd)) => if m.w then (match getP p dd with
          | some sd => (match opSet sd [ix, d] with
            | some (sd', _) => (match setP p dd sd' with
              | some d' => some (.nx (E3.set i (some (m, d'))))
              | none => none)
            | none => none)
          | none => none) else none
        | _ => none) else none
      | none => none) else none
    | none => none)
  | none => none
theorem vs_setItem {ro : Bool} {o ix e : Expr} {M : List Nat} {i : Nat} {k k' : Kind} {f g : EF} {pf : PF} {pos pos' : Pos} (x : XOk G X) (he : VE G X e M k f) (ho : VP G X o [] i pf) (hi : VE G X ix [] k' g)
    (ha : ∀ v, assign (.Subscript o ix pos') X.env v = (do
      let ov ← holding [v] (eval o X.env)
      let iv ← holding [v, ov] (eval ix X.env)
      standAt pos'
      holding [v, ov, iv] (setItem ov iv v)
      release [v, ov, iv] []) := by intro _; rfl) (hs : swapsWithSole [.Subscript o ix pos'] e pos.line X.env = pure false := by rfl) (hw : swappedStores [.Subscript o ix pos'] e X.env = pure none := by rfl)
    (h1 : (assignEach [.Subscript o ix pos'] X.env).map (·.2) = [assign (.Subscript o ix pos') X.env] := by rfl) : VS G X ro (.Assign [.Subscript o ix pos'] e pos) (sSetIt i k f pf g) :=
  PS.imp (ps_asg he (pg_sub ho hi (pset_all x) ha) hs hw h1) fun N σ H ⟨C, E, Fs, R, o, e, q⟩ => by
    unfold sSetIt at e
    split at e
    · rename_i d E1 e1
      split at e
      · rename_i p E2 e2
        split at e
        · rename_i hh
          split at e
          · rename_i ixd E3 e3
            split at e
            · rename_i hst
              split at e
              · rename_i m dd e4
                split at e
                · rename_i hw
                  split at e
                  · rename_i sd e5
                    split at e
                    · rename_i sd' rr e6
                      split at e
                      · rename_i d' e7
                        cases e
                        rw [Bool.and_eq_true] at hst
                        refine ⟨C, E, Fs, R, d, E1, e1, fun vv H1 Fs1 B R1 s1 rv kv => ?_⟩
                        refine ⟨C, E1, Fs1, R1, p, E2, e2, hasP_of hh, fun H2 Fs2 m1 d1 v sd1 sv Pf A S R2 s2 em ev hf => ?_⟩
                        refine ⟨C, E2, Fs2, R2, ixd, E3, e3, fun iv H3 Fs3 F3 R3 s3 r3 k3 => ?_⟩
                        obtain ⟨rv2, kv2⟩ := kv.step R1 rv s2 (safe_nil k)
                        obtain ⟨rv3, kv3⟩ := kv2.step R2 rv2 s3 (safe_nil k)
                        have em3 : E3[i]? = some (some (m1, d1)) := by rw [s3.env i (by simp)]; exact em
                        rw [e4] at em3
                        cases em3
                        have fs3 := s3.fs i (by simp)
                        have hf3 := Foc.chg s3.chg (fun a _ ⟨j, hj, _⟩ => by cases hj) hf
                        rw [← fs3] at hf3
                        have g1 := foc_det hf3
                        rw [e5] at g1
                        cases g1
                        obtain ⟨eF, rd3⟩ := foc_rds hf3
                        have nd3 := (R3.nd i m dd e4 hw).1
                        have ndA : A.Nodup := by
                          rw [eF] at nd3
                          exact ((List.sublist_append_left A S).trans (List.sublist_append_right Pf _)).nodup nd3
                        have inA : ∀ a ∈ A, a ∈ Fs3 i := fun a ha => by rw [eF]; simp [ha]
                        obtain ⟨ndB, loB⟩ := storL_ok (C := C) (show storL [k] [d] = true from hst.1) (G := G) (σ := σ) (H := H) (H1 := H3) (E := E3) (Fs := Fs3) (vs := [vv]) (FF := [B]) ⟨d, [], vv, [], B, [], rfl, rfl, rfl, rv3, kv3, fun j B' hB => by simp at hB, rfl, rfl, rfl⟩
                        simp only [List.flatten_cons, List.flatten_nil, List.append_nil] at ndB loB
                        have eI := Rds.atom _ _ _ hst.2 r3
                        subst eI
                        have ofB : ∀ {a}, a ∈ B → a ∉ Fs3 i := fun {a} hb hm => (loB a hb).2 i ⟨m, dd, e4⟩ hm
                        have fin4 : ∀ (v3 : V) (H4 : Hp) (A' : List Addr), Rds G H4 sd' sv A' → Rds G H4 rr v3 [] → A'.Nodup → (∀ a ∈ A', a ∈ A ∨ a ∈ B) → Chg (fun a => a ∈ A) H3 H4 → N.nx σ H4 := fun v3 H4 A' rA' rR ndA' inA' c4 => by
                          have rd4 := foc_set hf3 nd3 c4 rA' e7
                          have c4' : Chg (fun a => a ∈ Fs3 i) H3 H4 := c4.mono fun q o _ h => inA q h
                          have ndN : (Pf ++ (A' ++ S)).Nodup := by
                            have ndF' := nd3
                            rw [eF, List.nodup_append] at ndF'
                            obtain ⟨n1, n2, n3⟩ := ndF'
                            rw [List.nodup_append] at n2
                            obtain ⟨_, n5, n6⟩ := n2
                            rw [List.nodup_append]
                            refine ⟨n1, ?_, fun a ha b hb eab => ?_⟩
                            · rw [List.nodup_append]
                              refine ⟨ndA', n5, fun a ha b hb eab => ?_⟩
                              subst eab
                              rcases inA' a ha with y | y
                              · exact n6 a y a hb rfl
                              · exact ofB y (by rw [eF]; simp [hb])
                            · subst eab
                              rcases List.mem_append.mp hb with z | z
                              · rcases inA' a z with y | y
                                · exact n3 a ha a (by simp [y]) rfl
                                · exact ofB y (by rw [eF]; simp [ha])
                              · exact n3 a ha a (by simp [z]) rfl
                          refine q σ H4 _ (R3.write e4 hw ev c4' rd4 ndN fun a ha => ?_)
                          rw [eF]
                          simp only [List.mem_append] at ha ⊢
                          have byB : a ∈ B → C.H0 a = none ∧ ¬ C.T a ∧ ∀ j, j ≠ i → Asg E3 j → a ∉ Fs3 j := fun y => ⟨(R.hn a (loB a y).1).1, (R.hn a (loB a y).1).2, fun j _ hj => (loB a y).2 j hj⟩
                          rcases ha with z | z | z
                          · exact .inl (.inl z)
                          · rcases inA' a z with y | y
                            · exact .inl (.inr (.inl y))
                            · exact .inr (byB y)
                          · exact .inl (.inr (.inr z))
                        obtain ⟨_, _, ez, fin⟩ := mut_set H3 sd sv A [ixd, d] [iv, vv] B (fun _ H' => N.nx σ H') sd' rr rd3 (rdsL_cons.mpr ⟨iv, _, [], B, rfl, rfl, r3, rdsL_cons.mpr ⟨vv, [], B, [], rfl, by simp, rv3, rdsL_nil.mpr ⟨rfl, rfl⟩⟩⟩) ndA ndB (fun a ha hb => ofB hb (inA a ha)) e6 (by
                            unfold opSet at e6
                            split at e6
                            · split at e6
                              · cases e6
                                rfl
                              · cases e6
                            · split at e6
                              · split at e6
                                · cases e6
                                  rfl
                                · cases e6
                              · cases e6
                            · cases e6) fin4
                        cases ez
                        exact fin
                      · cases e
                    · cases e
                  · cases e
                · cases e
              · cases e
            · cases e
          · cases e
        · cases e
      · cases e
    · cases e
end
end
end VL
set_option maxHeartbeats 4000000
namespace VL
noncomputable section
open PySem PySem.Spec PyProof.Rows L2
open GxR (TabB Tabbed)
variable [LamT]
section
variable {G : Gb} {X : Cx} {o e : Expr} {M M' : List Nat} {k k' : Kind} {f g : EF} {pos apos cpos : Pos}
def eDict0 : EF := fun E => some (.dct [] [], E)
theorem ve_dict0 : VE G X (.Dict [] [] pos) [] .own eDict0 := PE.imp pe_dnewK fun σ H Q ⟨C, E, Fs, R, d, E', e, q⟩ p np => by
  cases e
  have c : Chg No H (upd H p (.dK [])) := Chg.new np
  refine q _ _ Fs [p] (R.chg c) (Stp.of c) (rds_dct.mpr ⟨p, [], [], rfl, upd_same, ⟨rfl, List.nodup_nil⟩, rdsL_nil.mpr ⟨rfl, rfl⟩, rfl⟩) ⟨by simp, fun a ha => .inr ?_⟩
  rw [List.mem_singleton.mp ha]
  exact R.loose np
def eDict1 (f g : EF) : EF := fun E => match f E with
  | some (kd, E1) => (match keyD kd with
    | some k => (match g E1 with
      | some (d, E2) => some (.dct [k] [d], E2)
      | none => none)
    | none => none)
  | none => none
def pGet : List D → Option D
  | [.dct ks ds, k] => (keyD k).map fun k => (atK ks ds k).getD .non
  | _ => none
end
end
end VL
set_option maxHeartbeats 8000000
namespace VL
noncomputable section
open PySem PySem.Spec PyProof.Rows L2
open GxR (TabB Tabbed)
variable [LamT]
end
end VL
set_option maxHeartbeats 8000000
namespace VL
noncomputable section
open PySem PySem.Spec PyProof.Rows L2
open GxR (TabB Tabbed)
variable [LamT]
section
variable {G : Gb} {X : Cx} {H : Hp} {pos p p2 q : Pos} {e : Expr} {M : List Nat} {k : Kind} {f : EF}
def pSumA : List D → Option D
  | [d] => match d.items with
    | some ds => (intsD ds).map fun ns => .int ns.sum
    | none => none
  | _ => none
theorem rdsL_rev : ∀ {ds : List D} {vs : List V} {F : List Addr}, RdsL G H ds vs F → ∃ A, RdsL G H ds.reverse vs.reverse A ∧ A.Perm F
  | [], _, _, h => by
    obtain ⟨rfl, rfl⟩ := rdsL_nil.mp h
    exact ⟨[], rdsL_nil.mpr ⟨rfl, rfl⟩, List.Perm.refl _⟩
  | d :: ds, _, _, h => by
    obtain ⟨x, r, A, B, rfl, rfl, h1, h2⟩ := rdsL_cons.mp h
    obtain ⟨A', h3, h4⟩ := rdsL_rev h2
    rw [List.reverse_cons, List.reverse_cons]
    refine ⟨A' ++ (A ++ []), rdsL_app h3 (rdsL_cons.mpr ⟨x, [], A, [], rfl, rfl, h1, rdsL_nil.mpr ⟨rfl, rfl⟩⟩), ?_⟩
    rw [List.append_nil]
    exact List.perm_append_comm.trans (h4.append_left A)
def gSeqE (n : Nat) (gs : List D → Env → Option Env) : D → Env → Option Env
  | .tup ds, E => if ds.length = n then gs ds E else none
  | .lst ds, E => if ds.length = n then gs ds E else none
  | _, _ => none
end
theorem BOk.lt {G : Gb} {C : Ctx} {σ : L2.St} {E : Env} {Fs : Nat → List Addr} {bk : BK} {d : D} {v : V} {H1 : Hp} {a : Addr} {F : List Addr} (h : BOk σ C H1 E Fs bk d v (a :: F)) : BOkL C H1 E Fs bk F := by
  have vw : ∀ {S}, Vw H1 E Fs S (a :: F) → Vw H1 E Fs S F := fun z b hb => z b (List.mem_cons_of_mem _ hb)
  cases bk with
  | pr b => exact ⟨fun b hb => h.1 b (List.mem_cons_of_mem _ hb), fun z b hb => h.2 z b (List.mem_cons_of_mem _ hb)⟩
  | ex k =>
    cases k with
    | own => exact ⟨(List.nodup_cons.mp h.1).2, vw h.2⟩
    | sub i => exact ⟨h.1, (List.sublist_cons_self a F).trans h.2⟩
    | ref i =>
      obtain ⟨m, e, _, e2⟩ := h
      exact ⟨⟨m, d, e⟩, by rw [← e2]; exact List.sublist_cons_self a F⟩
    | top S => exact vw h.1
    | vw S => exact vw h
section
variable {G : Gb} {X : Cx} {pos : Pos}
theorem PG.or {e : Expr} {t t' : TG} (h : PG X e t) (h' : PG X e t') : PG X e (fun v σ H Q => t v σ H Q ∨ t' v σ H Q) := ⟨fun pins s σ H v u Q I r q => q.elim (h.run pins s σ H v u Q I r) (h'.run pins s σ H v u Q I r)⟩
theorem vs_unp (x : XOk G X) {ro : Bool} {es : List Expr} {e : Expr} {M W : List Nat} {j n : Nat} {k : Kind} {f : EF} {gs : List D → Env → Option Env} {tpos : Pos} (he : VE G X e M k f) (h : VGs G X es (.ex k) W gs) (hn : (assignEach es X.env).length = n := by rfl) (hst : (assignEach es X.env).findIdx? (·.1) = none := by rfl)
    (hs : swapsWithSole [.Tuple es j tpos] e pos.line X.env = pure false := by rfl) (hw : swappedStores [.Tuple es j tpos] e X.env = pure none := by rfl) (h1 : (assignEach [.Tuple es j tpos] X.env).map (·.2) = [assign (.Tuple es j tpos) X.env] := by rfl) :
    VS G X ro (.Assign [.Tuple es j tpos] e pos) (sAsg f (gSeqE n gs)) := PS.imp (ps_asg he (PG.or (pg_tup x.calm h hn hst) (pg_unl x.calm h hn hst)) hs hw h1) fun N σ H ⟨C, E, Fs, R, o, e, q⟩ => by
  unfold sAsg at e
  split at e
  · rename_i d E1 e1
    split at e
    · rename_i E2 e2
      cases e
      refine ⟨C, E, Fs, R, d, E1, e1, fun v H' Fs' F R' s' r' k' => ?_⟩
      have bo : BOk σ C H E1 Fs' (.ex k) d v F := k'
      unfold gSeqE at e2
      split at e2
      · rename_i ds
        split at e2
        · rename_i hl
          obtain ⟨a, xs, rfl, h1, h2⟩ := rds_tup.mp r'
          rw [x.K]
          exact .inl ⟨a, xs, rfl, h1, by rw [rdsL_len h2]; exact hl, C, E1, Fs', H, F, ds, R', R.hn, h2, bo.l, E2, e2, fun σ2 Fs2 R2 _ => q σ2 H' Fs2 R2⟩
        · cases e2
      · rename_i ds
        split at e2
        · rename_i hl
          obtain ⟨a, xs, A, rfl, h1, h2, rfl⟩ := rds_lst.mp r'
          rw [x.K]
          exact .inr ⟨a, xs, rfl, SqL.of h1, by rw [rdsL_len h2]; exact hl, C, E1, Fs', H, A, ds, R', R.hn, h2, BOk.lt (G := G) bo, E2, e2, fun σ2 Fs2 R2 _ => q σ2 H' Fs2 R2⟩
        · cases e2
      · cases e2
    · cases e
  · cases e
def eAnd (f g : EF) : EF := fun E => match f E with
  | some (d, E') => (match d.tru with
    | some true => g E'
    | some false => some (d, E')
    | none => none)
  | none => none
def eOr (f g : EF) : EF := fun E => match f E with
  | some (d, E') => (match d.tru with
    | some true => some (d, E')
    | some false => g E'
    | none => none)
  | none => none
def eNot (f : EF) : EF := fun E => match f E with
  | some (d, E') => (match d.tru with
    | some b => some (.bl (!b), E')
    | none => none)
  | none => none
variable {a b e : Expr} {rest : List Expr} {M M' : List Nat} {k k' : Kind} {f g : EF}
theorem ve_one {op} (h : VE G X a M k f) : VE G X (.BoolOp op [a] pos) M k f := pe_one h
theorem ve_and (x : XOk G X) (ha : VE G X a M k f) (hb : VE G X (.BoolOp .And (b :: rest) pos) M' k' g) : VE G X (.BoolOp .And (a :: b :: rest) pos) (M ++ M') (kIf k k') (eAnd f g) := PE.imp (pe_andT ha hb) fun σ H Q ⟨C, E, Fs, R, d, E', e, q⟩ => by
  unfold eAnd at e
  split at e
  · rename_i d1 E1 e1
    refine ⟨C, E, Fs, R, d1, E1, e1, fun v H1 Fs1 F1 R1 s1 r1 k1 => ?_⟩
    rw [x.K]
    split at e
    · rename_i ht
      exact ⟨true, tru_of ht r1, by rw [if_pos rfl]; exact ⟨C, E1, Fs1, R1, d, E', e, fun v2 H2 Fs2 F2 R2 s2 r2 k2 => q v2 H2 Fs2 F2 R2 (s1.trans s2) r2 (kIf_r (k2.base s1.chg))⟩⟩
    · rename_i ht
      cases e
      exact ⟨false, tru_of ht r1, by rw [if_neg Bool.false_ne_true]; exact q v H1 Fs1 F1 R1 (s1.mono fun i hi => List.mem_append_left _ hi) r1 (kIf_l k1)⟩
    · cases e
  · cases e
theorem ve_not (x : XOk G X) (ha : VE G X a M k f) : VE G X (.UnaryOp .Not a pos) M .own (eNot f) := PE.imp (pe_notT ha) fun σ H Q ⟨C, E, Fs, R, d, E', e, q⟩ => by
  unfold eNot at e
  split at e
  · rename_i d1 E1 e1
    refine ⟨C, E, Fs, R, d1, E1, e1, fun v H1 Fs1 F1 R1 s1 r1 k1 => ?_⟩
    rw [x.K]
    split at e
    · rename_i bb ht
      cases e
      exact ⟨bb, tru_of ht r1, q _ H1 Fs1 [] R1 s1 (rds_bl.mpr ⟨rfl, rfl⟩) ⟨List.nodup_nil, fun a ha => by cases ha⟩⟩
    · cases e
  · cases e
end
end
end VL
set_option maxHeartbeats 8000000
namespace VL
noncomputable section
open PySem PySem.Spec PyProof.Rows L2
open GxR (TabB Tabbed)
variable [LamT]
section
variable {G : Gb} {X : Cx}
def gSetIt (i : Nat) (k : Kind) (pf : PF) (g : EF) : D → Env → Option Env := fun d E1 => match pf E1 with
  | some (p, E2) => if hasP E2 i p then (match g E2 with
    | some (ix, E3) => if storable k d && ix.atom then (match E3[i]? with
      | some (some (m, dd)) => if m.w then (match getP p dd with
        | some sd => (match opSet sd [ix, d] with
          | some (sd', _) => (match setP p dd sd' with
            | some d' => some (E3.set i (some (m, d')))
            | none => none)
          | none => none)
        | none => none) else none
      | _ => none) else none
    | none => none) else none
  | none => none
def tGSet (G : Gb) (i : Nat) (k : Kind) (pf : PF) (g : EF) : TG := fun vv σ H1 Qn => ∃ C E1 Fs1 Ha B d, Rel G C H1 σ E1 Fs1 ∧ (∀ a, Ha a = none → C.H0 a = none ∧ ¬ C.T a) ∧ Rds G H1 d vv B ∧ KOk σ Ha E1 Fs1 k d vv B ∧
  ∃ E', gSetIt i k pf g d E1 = some E' ∧ ∀ H' Fs', Rel G C H' σ E' Fs' → Qn σ H'
theorem pg_setIt {o ix : Expr} {i : Nat} {k k' : Kind} {g : EF} {pf : PF} {pos' : Pos} (x : XOk G X) (ho : VP G X o [] i pf) (hi : VE G X ix [] k' g)
    (ha : ∀ v, assign (.Subscript o ix pos') X.env v = (do
      let ov ← holding [v] (eval o X.env)
      let iv ← holding [v, ov] (eval ix X.env)
      standAt pos'
      holding [v, ov, iv] (setItem ov iv v)
      release [v, ov, iv] []) := by intro _; rfl) : PG X (.Subscript o ix pos') (tGSet G i k pf g) :=
  PG.imp (pg_sub ho hi (pset_all x) ha) fun vv σ H1 Qn ⟨C, E1, Fs1, Ha, B, d, R1, hn, rv, kv, E', e, q⟩ => by
    unfold gSetIt at e
    split at e
    · rename_i p E2 e2
      split at e
      · rename_i hh
        split at e
        · rename_i ixd E3 e3
          split at e
          · rename_i hst
            split at e
            · rename_i m dd e4
              split at e
              · rename_i hw
                split at e
                · rename_i sd e5
                  split at e
                  · rename_i sd' rr e6
                    split at e
                    · rename_i d' e7
                      cases e
                      rw [Bool.and_eq_true] at hst
                      refine ⟨C, E1, Fs1, R1, p, E2, e2, hasP_of hh, fun H2 Fs2 m1 d1 v sd1 sv Pf A S R2 s2 em ev hf => ?_⟩
                      refine ⟨C, E2, Fs2, R2, ixd, E3, e3, fun iv H3 Fs3 F3 R3 s3 r3 k3 => ?_⟩
                      obtain ⟨rv2, kv2⟩ := kv.step R1 rv s2 (safe_nil k)
                      obtain ⟨rv3, kv3⟩ := kv2.step R2 rv2 s3 (safe_nil k)
                      have em3 : E3[i]? = some (some (m1, d1)) := by rw [s3.env i (by simp)]; exact em
                      rw [e4] at em3
                      cases em3
                      have fs3 := s3.fs i (by simp)
                      have hf3 := Foc.chg s3.chg (fun a _ ⟨j, hj, _⟩ => by cases hj) hf
                      rw [← fs3] at hf3
                      have g1 := foc_det hf3
                      rw [e5] at g1
                      cases g1
                      obtain ⟨eF, rd3⟩ := foc_rds hf3
                      have nd3 := (R3.nd i m dd e4 hw).1
                      have ndA : A.Nodup := by
                        rw [eF] at nd3
                        exact ((List.sublist_append_left A S).trans (List.sublist_append_right Pf _)).nodup nd3
                      have inA : ∀ a ∈ A, a ∈ Fs3 i := fun a ha => by rw [eF]; simp [ha]
                      obtain ⟨ndB, loB⟩ := storL_ok (C := C) (show storL [k] [d] = true from hst.1) (G := G) (σ := σ) (H := Ha) (H1 := H3) (E := E3) (Fs := Fs3) (vs := [vv]) (FF := [B]) ⟨d, [], vv, [], B, [], rfl, rfl, rfl, rv3, kv3, fun j B' hB => by simp at hB, rfl, rfl, rfl⟩
                      simp only [List.flatten_cons, List.flatten_nil, List.append_nil] at ndB loB
                      have eI := Rds.atom _ _ _ hst.2 r3
                      subst eI
                      have ofB : ∀ {a}, a ∈ B → a ∉ Fs3 i := fun {a} hb hm => (loB a hb).2 i ⟨m, dd, e4⟩ hm
                      have fin4 : ∀ (v3 : V) (H4 : Hp) (A' : List Addr), Rds G H4 sd' sv A' → Rds G H4 rr v3 [] → A'.Nodup → (∀ a ∈ A', a ∈ A ∨ a ∈ B) → Chg (fun a => a ∈ A) H3 H4 → Qn σ H4 := fun v3 H4 A' rA' rR ndA' inA' c4 => by
                        have rd4 := foc_set hf3 nd3 c4 rA' e7
                        have c4' : Chg (fun a => a ∈ Fs3 i) H3 H4 := c4.mono fun q o _ h => inA q h
                        have ndN : (Pf ++ (A' ++ S)).Nodup := by
                          have ndF' := nd3
                          rw [eF, List.nodup_append] at ndF'
                          obtain ⟨n1, n2, n3⟩ := ndF'
                          rw [List.nodup_append] at n2
                          obtain ⟨_, n5, n6⟩ := n2
                          rw [List.nodup_append]
                          refine ⟨n1, ?_, fun a ha b hb eab => ?_⟩
                          · rw [List.nodup_append]
                            refine ⟨ndA', n5, fun a ha b hb eab => ?_⟩
                            subst eab
                            rcases inA' a ha with y | y
                            · exact n6 a y a hb rfl
                            · exact ofB y (by rw [eF]; simp [hb])
                          · subst eab
                            rcases List.mem_append.mp hb with z | z
                            · rcases inA' a z with y | y
                              · exact n3 a ha a (by simp [y]) rfl
                              · exact ofB y (by rw [eF]; simp [ha])
                            · exact n3 a ha a (by simp [z]) rfl
                        refine q H4 _ (R3.write e4 hw ev c4' rd4 ndN fun a ha => ?_)
                        rw [eF]
                        simp only [List.mem_append] at ha ⊢
                        have byB : a ∈ B → C.H0 a = none ∧ ¬ C.T a ∧ ∀ j, j ≠ i → Asg E3 j → a ∉ Fs3 j := fun y => ⟨(hn a (loB a y).1).1, (hn a (loB a y).1).2, fun j _ hj => (loB a y).2 j hj⟩
                        rcases ha with z | z | z
                        · exact .inl (.inl z)
                        · rcases inA' a z with y | y
                          · exact .inl (.inr (.inl y))
                          · exact .inr (byB y)
                        · exact .inl (.inr (.inr z))
                      obtain ⟨_, _, ez, fin⟩ := mut_set H3 sd sv A [ixd, d] [iv, vv] B (fun _ H' => Qn σ H') sd' rr rd3 (rdsL_cons.mpr ⟨iv, _, [], B, rfl, rfl, r3, rdsL_cons.mpr ⟨vv, [], B, [], rfl, by simp, rv3, rdsL_nil.mpr ⟨rfl, rfl⟩⟩⟩) ndA ndB (fun a ha hb => ofB hb (inA a ha)) e6 (by
                          unfold opSet at e6
                          split at e6
                          · split at e6
                            · cases e6
                              rfl
                            · cases e6
                          · split at e6
                            · split at e6
                              · cases e6
                                rfl
                              · cases e6
                            · cases e6
                          · cases e6) fin4
                      cases ez
                      exact fin
                    · cases e
                  · cases e
                · cases e
              · cases e
            · cases e
          · cases e
        · cases e
      · cases e
    · cases e
def sPairSet (i : Nat) (pf : PF) (g : EF) (j : Nat) (f : EF) : SF := fun E => match f E with
  | some (.tup [.int a, .int b], E1) => (match gSetIt i .own pf g (.int a) E1 with
    | some E2 => if j < E2.length then some (.nx (E2.set j (some (.own, .int b)))) else none
    | none => none)
  | _ => none
theorem vs_pairSet {ro : Bool} {o ix e : Expr} {M : List Nat} {i j kk : Nat} {k k' : Kind} {f g : EF} {pf : PF} {y : Str} {pos pos' py tpos : Pos} (x : XOk G X) (he : VE G X e M k f) (ho : VP G X o [] i pf) (hi : VE G X ix [] k' g)
    (hN : X.N.Nodup) (hj : X.N[j]? = some y) (hx : Loc X.env.scope y) (hf : X.fn y = true ∨ X.env.scope.names.lookup y = some .local := by first | exact .inl rfl | exact .inr rfl | assumption)
    (ha : ∀ v, assign (.Subscript o ix pos') X.env v = (do
      let ov ← holding [v] (eval o X.env)
      let iv ← holding [v, ov] (eval ix X.env)
      standAt pos'
      holding [v, ov, iv] (setItem ov iv v)
      release [v, ov, iv] []) := by intro _; rfl)
    (hn : (assignEach [.Subscript o ix pos', .Name y py] X.env).length = 2 := by rfl) (hst : (assignEach [.Subscript o ix pos', .Name y py] X.env).findIdx? (·.1) = none := by rfl)
    (hs : swapsWithSole [.Tuple [.Subscript o ix pos', .Name y py] kk tpos] e pos.line X.env = pure false := by rfl) (hw : swappedStores [.Tuple [.Subscript o ix pos', .Name y py] kk tpos] e X.env = pure none := by rfl) (h1 : (assignEach [.Tuple [.Subscript o ix pos', .Name y py] kk tpos] X.env).map (·.2) = [assign (.Tuple [.Subscript o ix pos', .Name y py] kk tpos) X.env] := by rfl) :
    VS G X ro (.Assign [.Tuple [.Subscript o ix pos', .Name y py] kk tpos] e pos) (sPairSet i pf g j f) :=
  PS.imp (ps_asg he (pg_tup x.calm (pgs_cons (pg_setIt (k := .own) x ho hi ha) (pgs_cons (pg_name hN hj hx hf) pgs_nil)) hn hst) hs hw h1) fun N σ H ⟨C, E, Fs, R, o, e, q⟩ => by
    unfold sPairSet at e
    split at e
    · rename_i a b E1 e1
      split at e
      · rename_i E2 e2
        split at e
        · rename_i hl
          cases e
          refine ⟨C, E, Fs, R, _, E1, e1, fun v H' Fs' F R' s' r' k' => ?_⟩
          obtain ⟨t, xs, rfl, h1, h2⟩ := rds_tup.mp r'
          obtain ⟨x1, x2, A, B, rfl, rfl, h3, h4⟩ := rdsL2 h2
          obtain ⟨rfl, rfl⟩ := rds_int.mp h3
          obtain ⟨rfl, rfl⟩ := rds_int.mp h4
          rw [x.K]
          refine ⟨t, _, rfl, h1, rfl, _, _, rfl, C, E1, Fs', H, [], .int a, R', R.hn, rds_int.mpr ⟨rfl, rfl⟩, ⟨List.nodup_nil, fun z hz => by cases hz⟩, E2, e2, fun H2 Fs2 R2 => ⟨_, _, rfl, rfl, ?_⟩⟩
          exact q _ H2 _ (R2.setOwn (H1 := H2) hl R2.hn (rds_int.mpr ⟨rfl, rfl⟩) List.nodup_nil (fun z hz => by cases hz))
        · cases e
      · cases e
    · cases e
end
end
end VL
set_option maxHeartbeats 4000000
namespace VL
noncomputable section
open PySem PySem.Spec PyProof.Rows L2
open GxR (TabB Tabbed)
variable [LamT]
theorem XOk.blk {G : Gb} {X : Cx} (x : XOk G X) {s : Shared} {H : Hp} {scope : Scope} {env : PySem.Env} {fp : List Addr} : XOk G (X.blk s H scope env fp) := ⟨x.K, x.calm, x.un⟩
theorem XOk.un64 {G : Gb} {X : Cx} (x : XOk G X) : X.A.units + 64 < cLine := by have := x.un; omega
section
variable {G : Gb} {X : Cx}
def pEq (neg : Bool) : List D → Option D
  | [.str a, .str b] => some (.bl (if neg then !decide (a = b) else decide (a = b)))
  | [.bl a, .bl b] => some (.bl (if neg then !decide (a = b) else decide (a = b)))
  | ds => pEqv neg ds
theorem op_eqAll (x : XOk G X) : OpR X (compareOp .Eq) (fun x y H Q => rEqD X.K x y H Q ∨ rEq x y H Q) := (op_eqD x.un64).or op_eq
theorem op_neAll (x : XOk G X) : OpR X (compareOp .NotEq) (fun x y H Q => rNeD X.K x y H Q ∨ rNe x y H Q) := (op_neD x.un64).or op_ne
theorem dec_strV {a b : Str} : decide (V.str a = V.str b) = decide (a = b) := by
  by_cases h : a = b <;> simp [h]
theorem dec_blV {a b : Bool} : decide (V.bl a = V.bl b) = decide (a = b) := by
  by_cases h : a = b <;> simp [h]
theorem prim_eqA (hK : X.K = G.K) : PrimF G (r2 fun x y H Q => rEqD X.K x y H Q ∨ rEq x y H Q) (pEq false) := fun H vs ds F Q d tb r e q => by
  unfold pEq at e
  split at e
  · cases e
    obtain ⟨x, y, A, B, rfl, rfl, h1, h2⟩ := rdsL2 r
    obtain ⟨rfl, rfl⟩ := rds_str.mp h1
    obtain ⟨rfl, rfl⟩ := rds_str.mp h2
    refine ⟨_, _, rfl, .inr ⟨rfl, ?_⟩⟩
    rw [dec_strV]
    exact q_atom (hBl _) q
  · cases e
    obtain ⟨x, y, A, B, rfl, rfl, h1, h2⟩ := rdsL2 r
    obtain ⟨rfl, rfl⟩ := rds_bl.mp h1
    obtain ⟨rfl, rfl⟩ := rds_bl.mp h2
    refine ⟨_, _, rfl, .inr ⟨rfl, ?_⟩⟩
    rw [dec_blV]
    exact q_atom (hBl _) q
  · obtain ⟨x, y, h, h1⟩ := prim_eq hK H vs _ F Q d tb r e q
    exact ⟨x, y, h, .inl h1⟩
theorem prim_neA (hK : X.K = G.K) : PrimF G (r2 fun x y H Q => rNeD X.K x y H Q ∨ rNe x y H Q) (pEq true) := fun H vs ds F Q d tb r e q => by
  unfold pEq at e
  split at e
  · cases e
    obtain ⟨x, y, A, B, rfl, rfl, h1, h2⟩ := rdsL2 r
    obtain ⟨rfl, rfl⟩ := rds_str.mp h1
    obtain ⟨rfl, rfl⟩ := rds_str.mp h2
    refine ⟨_, _, rfl, .inr ⟨rfl, ?_⟩⟩
    rw [dec_strV]
    exact q_atom (hBl _) q
  · cases e
    obtain ⟨x, y, A, B, rfl, rfl, h1, h2⟩ := rdsL2 r
    obtain ⟨rfl, rfl⟩ := rds_bl.mp h1
    obtain ⟨rfl, rfl⟩ := rds_bl.mp h2
    refine ⟨_, _, rfl, .inr ⟨rfl, ?_⟩⟩
    rw [dec_blV]
    exact q_atom (hBl _) q
  · obtain ⟨x, y, h, h1⟩ := prim_ne hK H vs _ F Q d tb r e q
    exact ⟨x, y, h, .inl h1⟩
def lRef (i : Nat) (g : LF) : LF := fun E => match E[i]? with
  | some (some _) => (match g E with
    | some (ds, E') => (match E'[i]? with
      | some (some (_, d)) => some (d :: ds, E')
      | _ => none)
    | none => none)
  | _ => none
def eOwn (k : Kind) (f : EF) : EF := fun E => match f E with
  | some (d, E') => if storable k d then some (d, E') else none
  | none => none
theorem flat_1x {H : Hp} {d : D} {v : V} {F : List Addr} (h : d.flat = true) (r : Rds G H d v F) : d.node = true ∧ ∃ a, F = [a] := by
  cases d with
  | lst ds =>
    obtain ⟨a, us, A, rfl, h3, h4, rfl⟩ := rds_lst.mp r
    have e := RdsL.atom ds us A (by unfold D.flat at h; exact h) h4
    subst e
    exact ⟨rfl, a, rfl⟩
  | dct ks ds =>
    obtain ⟨a, us, A, rfl, h3, _, h4, rfl⟩ := rds_dct.mp r
    have e := RdsL.atom ds _ A (by unfold D.flat at h; exact h) h4
    subst e
    exact ⟨rfl, a, rfl⟩
  | non => cases h
  | bl _ => cases h
  | int _ => cases h
  | str _ => cases h
  | tup _ => cases h
  | obj _ _ _ => cases h
  | scr _ => cases h
  | any => cases h
  | exn _ _ _ => cases h
theorem ve_own {e : Expr} {M : List Nat} {k : Kind} {f : EF} (h : VE G X e M k f) : VE G X e M .own (eOwn k f) := PE.imp h fun σ H Q ⟨C, E, Fs, R, d, E', e, q⟩ => by
  unfold eOwn at e
  split at e
  · rename_i d1 E1 e1
    split at e
    · rename_i hs
      cases e
      refine ⟨C, E, Fs, R, d, E', e1, fun v H' Fs' F R' s' r' k' => q v H' Fs' F R' s' r' ?_⟩
      unfold storable at hs
      rw [Bool.or_eq_true] at hs
      rcases hs with hs | hs
      · have eF := Rds.atom d v F hs r'
        subst eF
        exact ⟨List.nodup_nil, fun a ha => by cases ha⟩
      · cases k with
        | own => exact k'
        | top S =>
          have hf : d.flat = true := hs
          obtain ⟨hn, a, eF⟩ := flat_1x (d := d) hf r'
          subst eF
          refine ⟨by simp, fun b hb => .inr ?_⟩
          rw [List.mem_singleton.mp hb]
          exact k'.2 a [] hn rfl
        | sub i => cases hs
        | vw S => cases hs
        | ref i => cases hs
    · cases e
  · cases e
def sPar2 (i j : Nat) (l : LF) : SF := fun E => match l E with
  | some ([d, d'], E') => if i < E'.length ∧ j < E'.length then some (.nx ((E'.set i (some (.own, d))).set j (some (.own, d')))) else none
  | _ => none
def D.tyn : D → Option String
  | .non => some "NoneType"
  | .bl _ => some "bool"
  | .int _ => some "int"
  | .str _ => some "str"
  | .tup _ => some "tuple"
  | .lst _ => some "list"
  | .dct _ _ => some "dict"
  | .scr _ => some "list"
  | .obj _ _ _ => none
  | .any => none
  | .exn _ _ _ => none
def isiB (a T : String) : Bool := decide (a = T) || (decide (a = "bool") && decide (T = "int"))
def isiTs : List String := ["int", "bool", "list", "tuple", "dict", "str"]
def pIsi (T : String) : List D → Option D
  | [d] => d.tyn.map fun a => .bl (isiB a T)
  | _ => none
theorem isi_kit : ∀ a ∈ ["NoneType", "bool", "int", "str", "tuple", "list", "dict"], ∀ T ∈ isiTs, kitB a T = some (isiB a T) := by decide +kernel
theorem tyn_mem {d : D} {a : String} (e : d.tyn = some a) : a ∈ ["NoneType", "bool", "int", "str", "tuple", "list", "dict"] := by
  cases d <;> simp [D.tyn] at e <;> subst e <;> decide
theorem rds_ty {H : Hp} {d : D} {v : V} {F : List Addr} {a : String} (e : d.tyn = some a) (r : Rds G H d v F) : TyX G.K H v (.type a) := by
  cases d <;> simp only [D.tyn, Option.some.injEq, reduceCtorEq] at e <;> subst e
  · obtain ⟨rfl, _⟩ := rds_non.mp r
    exact .base .non
  · obtain ⟨rfl, _⟩ := rds_bl.mp r
    exact .base (.bl _)
  · obtain ⟨rfl, _⟩ := rds_int.mp r
    exact .base (.int _)
  · obtain ⟨rfl, _⟩ := rds_str.mp r
    exact .base (.str _)
  · obtain ⟨a, us, rfl, h3, h4⟩ := rds_tup.mp r
    rcases h3 with (h | ⟨o, h⟩) | ⟨o, its, n, h, hc, _⟩
    · exact .base (.tup h)
    · exact .fTuple h
    · exact .kTuple h hc
  · obtain ⟨a, us, A, rfl, h3, h4, rfl⟩ := rds_lst.mp r
    exact .base (.lst h3)
  · obtain ⟨a, us, A, rfl, h3, _, h4, rfl⟩ := rds_dct.mp r
    exact .base (.dK h3)
  · obtain ⟨a, rfl, h3, rfl⟩ := rds_scr.mp r
    rcases h3 with ⟨o, h⟩ | ⟨o, its, n, h, hc, _⟩
    · exact .base (.frz h)
    · exact .kList h hc
theorem prim_isi (hK : X.K = G.K) {T : String} (hT : T ∈ isiTs) : PrimF G (fun vs H Q => ∃ x, vs = [x] ∧ rIsi X.K [x, .ty T] H Q) (pIsi T) := fun H vs ds F Q d tb r e q => by
  rw [hK]
  unfold pIsi at e
  split at e
  · rename_i d1
    cases ey : d1.tyn with
    | none => rw [ey] at e; cases e
    | some a =>
      rw [ey] at e
      cases e
      obtain ⟨x, rfl, h1⟩ := rdsL1 r
      exact ⟨x, rfl, x, .ty T, .type a, .type T, isiB a T, rfl, .ty T, rds_ty ey h1, kit_ty (isi_kit a (tyn_mem ey) T hT), q_atom (hBl _) q⟩
  · cases e
theorem ve_isi {a : Expr} {M : List Nat} {k : Kind} {f : EF} {T : String} {n : Str} {q q2 pos : Pos} (x : XOk G X) (hg : Gl X "isinstance") (hm : X.mg "isinstance" = none) (hg2 : Gl X n) (hm2 : X.mg n = none) (hT : T ∈ isiTs) (hv2 : bootBuiltins n = some (.type T)) (ha : VE G X a M k f)
    (hn : n ≠ "__name__" := by decide) (hd : (n == ("__debug__" : Str)) = false := by decide)
    (he : starEach [a, .Name n q2] X.env = (false, eval a X.env) :: starEach [.Name n q2] X.env := by rfl) (hpl : (backTo pos (starEach [.Name n q2] X.env)).any (·.1) = false := by rfl) (hs2 : starEach [.Name n q2] X.env = (false, eval (.Name n q2) X.env) :: starEach [] X.env := by rfl) :
    VE G X (.Call (.Name "isinstance" q) [a, .Name n q2] [] pos) M .own (ePrim (pIsi T) (lCons f lNil)) :=
  PE.imp (pe_callB call_isi hg hm (by decide +kernel) (pa_cons ha (pa_cons (pe_bltn (v := .ty T) hg2 hm2 hv2 rfl hn hd) pa_nil hs2) he) (by decide) (by decide) he hpl) fun σ H Q h => (one_of (prim_own (prim_isi x.K hT) h)).mono fun x H1 ⟨y, e, q⟩ => by
    cases e
    exact q
def eCnt (f g : EF) : EF := fun E => match f E with
  | some (.lst ds, E1) => (match g E1 with
    | some (d, E2) => (match flatD d, flatsD ds with
      | some v, some vs => some (.int ((vs.countP fun z => eqV z v : Nat) : Int), E2)
      | _, _ => none)
    | none => none)
  | _ => none
end
end
end VL
set_option maxHeartbeats 4000000
namespace VL
noncomputable section
open PySem PySem.Spec PyProof.Rows L2
open GxR (TabB Tabbed)
variable [LamT]
section
variable {G : Gb} {X : Cx}
def eChain (o1 o2 : Int → Int → Bool) (f g h : EF) : EF := fun E => match lCons f (lCons g lNil) E with
  | some ([.int i, .int j], E2) => if o1 i j then (match h E2 with
    | some (.int k, E3) => some (.bl (o2 j k), E3)
    | _ => none) else some (.bl false, E2)
  | _ => none
section
variable {a b c : Expr} {op op' : CmpOp} {o1 o2 : Int → Int → Bool} {M M' M3 : List Nat} {k k' k3 : Kind} {f g h : EF} {pos : Pos}
theorem chain_of {σ : L2.St} {H : Hp} {Q : VK} (sf : k.safe M' = true) (hq : tV G ((M ++ M') ++ M3) .own (eChain o1 o2 f g h) σ H Q) : tChain (rI0 fun i j => .bl (o1 i j)) (rI0 fun i j => .bl (o2 i j)) (tV G M k f) (tV G M' k' g) (tV G M3 k3 h) σ H Q := by
  obtain ⟨C, E, Fs, R, d, E', e, q⟩ := hq
  unfold eChain at e
  split at e
  · rename_i i j E2 e1
    refine (two_of (R := fun vs H' => ∃ x y, vs = [x, y] ∧ x = .int i ∧ y = .int j ∧ (if o1 i j = true then tV G M3 k3 h σ H' fun w' H4 => (rI0 fun i j => .bl (o2 i j)) (.int j) w' H4 Q else Q (.bl false) H')) sf ⟨C, E, Fs, R, _, _, e1, fun vs H' Fs' FF R' s' a' => ?_⟩).mono fun x H1 q => q.mono fun y H2 ⟨_, _, e, e1, e2, q⟩ => by
      cases e
      subst e2
      exact ⟨i, j, e1, rfl, _, rfl, q⟩
    obtain ⟨x, y, A, B, rfl, _, h1, h2⟩ := rdsL2 a'.rds
    refine ⟨x, y, rfl, (rds_int.mp h1).1, (rds_int.mp h2).1, ?_⟩
    split at e
    · rename_i ho
      rw [if_pos ho]
      split at e
      · rename_i kk E3 e3
        cases e
        refine ⟨C, E2, Fs', R', .int kk, _, e3, fun v H3 Fs3 F3 R3 s3 r3 _ => ⟨j, kk, rfl, (rds_int.mp r3).1, ?_⟩⟩
        exact q _ H3 Fs3 [] R3 (s'.trans s3) (hBl _ _ _) ⟨List.nodup_nil, fun a ha => by cases ha⟩
      · cases e
    · rename_i ho
      rw [if_neg ho]
      cases e
      exact q _ H' Fs' [] R' (s'.mono fun i hi => List.mem_append_left _ hi) (hBl _ _ _) ⟨List.nodup_nil, fun a ha => by cases ha⟩
  · cases e
theorem ve_chain (ho : OpR X (compareOp op) (rI0 fun i j => .bl (o1 i j))) (ho' : OpR X (compareOp op') (rI0 fun i j => .bl (o2 i j))) (ha : VE G X a M k f) (hb : VE G X b M' k' g) (hc : VE G X c M3 k3 h) (sf : k.safe M' = true := by rfl) (hm : lastMarks [op, op'] [b, c] = false := by with_unfolding_all rfl) :
    VE G X (.Compare a [op, op'] [b, c] pos) ((M ++ M') ++ M3) .own (eChain o1 o2 f g h) := PE.imp (pe_chain ho ho' ha hb hc hm) fun σ H Q hq => chain_of sf hq
theorem vt_chain (ho : OpR X (compareOp op) (rI0 fun i j => .bl (o1 i j))) (ho' : OpR X (compareOp op') (rI0 fun i j => .bl (o2 i j))) (ha : VE G X a M k f) (hb : VE G X b M' k' g) (hc : VE G X c M3 k3 h) (sf : k.safe M' = true := by rfl) (hm : lastMarks [op, op'] [b, c] = false := by with_unfolding_all rfl) :
    VT G X (.Compare a [op, op'] [b, c] pos) ((M ++ M') ++ M3) (toT (eChain o1 o2 f g h)) := PT.imp (pt_chain ho ho' ha hb hc hm) fun σ H Q ⟨C, E, Fs, R, b, E', e, q⟩ => by
  unfold toT at e
  split at e
  · rename_i bb E1 e1
    cases e
    refine chain_of sf ⟨C, E, Fs, R, .bl b, _, e1, fun v H' Fs' F R' s' r' _ => ⟨b, (rds_bl.mp r').1, q H' Fs' R' s'⟩⟩
  · cases e
end
def sAug (op : Int → Int → Int) (i : Nat) (f : EF) : SF := fun E => match E[i]? with
  | some (some (_, .int a)) => (match f E with
    | some (.int b, E') => if i < E'.length then some (.nx (E'.set i (some (.own, .int (op a b))))) else none
    | _ => none)
  | _ => none
def sAugIt (op : Int → Int → Int) (i : Nat) (g f : EF) : SF := fun E => match E[i]? with
  | some (some (m, .lst ds)) => if m.w then (match g E with
    | some (.int j, E1) => (match f E1 with
      | some (.int b, E2) => (if 0 ≤ j then (match ds[j.toNat]? with
        | some (.int a) => some (.nx (E2.set i (some (m, .lst (ds.set j.toNat (.int (op a b)))))))
        | _ => none) else none)
      | _ => none)
    | _ => none) else none
  | _ => none
def pIsi2 (T T' : String) : List D → Option D
  | [d] => d.tyn.map fun a => .bl (isiB a T || isiB a T')
  | _ => none
end
end
end VL
set_option maxHeartbeats 4000000
namespace VL
noncomputable section
open PySem PySem.Spec PyProof.Rows L2
open GxR (TabB Tabbed)
variable [LamT]
section
variable {G : Gb} {C : Ctx} {H H' : Hp} {σ : L2.St} {E : Env} {Fs : Nat → List Addr} {P : Addr}
theorem Stp.same {M : List Nat} {E' : Env} {Fs' : Nat → List Addr} (s : Stp [] H H' E E' Fs Fs') (hl : E'.length = E.length) : E' = E := by
  refine List.ext_getElem? fun i => s.env i (by simp)
theorem Stp.no {E' : Env} {Fs' : Nat → List Addr} (s : Stp [] H H' E E' Fs Fs') : Chg No H H' := s.chg.mono fun q o _ ⟨i, hi, _⟩ => by cases hi
end
section
variable {G : Gb} {X : Cx}
variable {elt tg iter tg1 iter1 : Expr} {ifs ifs1 : List Expr} {scope : Scope} {own : List (Str × Nat)} {pos : Pos} {M0 W W1 vs1 : List Nat} {k k1 ke : Kind} {src src1 : IF} {g g1 : Bool → D → Env → Option Env} {t t1 : TF} {f : EF}
end
def retTs (E : Env) : List Kind → List D → List Nat → Bool
  | [], [], _ => true
  | k :: ks, d :: ds, seen => (d.atom || (match k with
    | .own => true
    | .sub i => !seen.contains i && (match E[i]? with
      | some (some (.own, _)) => true
      | _ => false)
    | _ => false)) && retTs E ks ds (match k with
      | .sub i => i :: seen
      | _ => seen)
  | _, _, _ => false
def sRetT (ks : List Kind) (l : LF) : SF := fun E => match l E with
  | some (ds, E') => if retTs E' ks ds [] && sl (decide (ds.length ≤ sizeLine)) then some (.rt (.tup ds) E') else none
  | none => none
end
end VL
set_option maxHeartbeats 4000000
namespace VL
open PySem PySem.Spec PyProof.Rows L2
open GxR (TabB Tabbed)
variable [LamT]
noncomputable section
def sCat (i : Nat) (p : List D → Option D) (l : LF) : SF := fun E => match l E with
  | some (ds, E') => (match p ds with
    | some d => (match E'[i]? with
      | some (some (.own, _)) => some (.nx (E'.set i (some (.own, d))))
      | _ => none)
    | none => none)
  | none => none
section
variable {G : Gb} {X : Cx}
theorem vs_cat {ro : Bool} {i : Nat} {xn : Str} {op : Operator} {r : R2} {p : List D → Option D} {a b : Expr} {M M' : List Nat} {f g : EF} {pos pos' pos2 : Pos} (hN : X.N.Nodup) (hi : X.N[i]? = some xn) (hx : Loc X.env.scope xn)
    (ho : OpR X (binaryOp op) r) (P : PrimV G (r2 r) p) (ha : VE G X a M (.sub i) f) (hb : VE G X b M' .own g) (sf : (Kind.sub i).safe M' = true := by rfl)
    (hs : swapsWith (.BinOp a op b pos2) (some (.Name xn pos')) pos.line X.env = pure false := by rfl)
    (hf : X.fn xn = true ∨ X.env.scope.names.lookup xn = some .local := by first | exact .inl rfl | exact .inr rfl | assumption) : VS G X ro (.Assign [.Name xn pos'] (.BinOp a op b pos2) pos) (sCat i p (lCons f (lCons g lNil))) :=
  PS.imp (ps_set hN hi hx (pe_op ho ha hb) hs hf) fun N σ H ⟨C, E, Fs, R, o, e, q⟩ => by
    refine (two_of (R := fun vs H2 => r2 r vs H2 fun x H1 => gName i x σ H1 N.nx) sf ?_).mono fun x H1 q => q.mono fun y H2 q => r2_of q
    unfold sCat at e
    split at e
    · rename_i ds E1 e1
      split at e
      · rename_i d ed
        split at e
        · rename_i d0 e0
          cases e
          refine ⟨C, E, Fs, R, ds, E1, e1, fun vs H' Fs' FF R' s' a' => ?_⟩
          have hl : i < E1.length := by
            have := (List.getElem?_eq_some_iff.mp e0).1
            exact this
          obtain ⟨n1, n2, n3⟩ := R'.nd i _ d0 e0 rfl
          have nw := (R'.nw i _ d0 e0).1 rfl
          have rr := a'.rds
          obtain ⟨d1, ds1, v1, vs1, F1, FF1, rfl, rfl, rfl, b1, b2, b3, d2, ds2, v2, vs2, F2, FF2, rfl, rfl, rfl, c1, c2, c3, rfl, rfl, rfl⟩ := a'
          have l2 : ∀ a ∈ F2, Loose H E1 Fs' a := fun a ha => (c2.2 a ha).elim (fun ⟨_, z, _⟩ => by cases z) id
          have ndF : ([F1, F2] : List (List Addr)).flatten.Nodup := by
            simp only [List.flatten_cons, List.flatten_nil, List.append_nil]
            rw [List.nodup_append]
            refine ⟨b2.2.nodup n1, c2.1, fun a ha b hb e => ?_⟩
            subst e
            exact b3 0 F2 rfl (.inr rfl) a ha hb
          refine P H' _ _ _ _ d R'.tb rr ed fun v H2 A r1 nd hA _ c => ?_
          refine q _ _ _ ((R'.chg c).set hl r1 (by decide) (fun _ => ⟨nd ndF, fun a ha => ?_⟩) (fun j m' d' hj ej _ a ha hm => ?_) (fun _ a ha => ?_))
          all_goals
            rcases hA a ha with h | h
            · simp only [List.flatten_cons, List.flatten_nil, List.append_nil] at h
              rcases List.mem_append.mp h with h | h
              · first
                | exact n2 a (b2.2.subset h)
                | exact n3 j m' d' hj ej a (b2.2.subset h) hm
                | exact nw a (b2.2.subset h)
              · first
                | exact (R.hn a (l2 a h).1).2
                | exact (l2 a h).2 j ⟨m', d', ej⟩ hm
                | exact (R.hn a (l2 a h).1).1
            · first
              | exact (R'.hn a h).2
              | exact (R'.loose h).2 j ⟨m', d', ej⟩ hm
              | exact (R'.hn a h).1
        · cases e
      · cases e
    · cases e
end
end
end VL
set_option maxHeartbeats 4000000
namespace VL
open PySem PySem.Spec PyProof.Rows L2
open GxR (TabB Tabbed)
variable [LamT]
noncomputable section
def D.isTup : D → Bool
  | .tup _ => true
  | _ => false
def zipD (ds es : List D) : List D := List.zipWith (fun a b => .tup [a, b]) ds es
def iZip2 (f g : EF) : IF := fun E => match lCons f (lCons g lNil) E with
  | some ([d, d'], E') => (match d.items, d'.items with
    | some ds, some es => if d.isTup == d'.isTup then some (zipD ds es, E') else none
    | _, _ => none)
  | _ => none
end
end VL
set_option maxHeartbeats 4000000
namespace VL
open PySem PySem.Spec PyProof.Rows L2
open GxR (TabB Tabbed)
variable [LamT]
noncomputable section
def eCallP (F : FD) (i : Nat) (pf : PF) : EF := fun E => match pf E with
  | some (p, E1) => if hasP E1 i p then (match E1[i]? with
    | some (some (m, d)) => if m.w then (match getP p d with
      | some sd => (match F [sd] with
        | some (r, [sd']) => (match setP p d sd' with
          | some d' => some (r, E1.set i (some (m, d')))
          | none => none)
        | _ => none)
      | none => none) else none
    | _ => none) else none
  | none => none
end
end VL
set_option maxHeartbeats 4000000
namespace VL
open PySem PySem.Spec PyProof.Rows L2
open GxR (TabB Tabbed)
variable [LamT]
noncomputable section
section
variable {G : Gb} {C : Ctx} {H H' : Hp} {σ : L2.St} {E : Env} {Fs Fs' : Nat → List Addr}
theorem set_none_get {j l : Nat} {m : Mode} {d : D} (e : (E.set j none)[l]? = some (some (m, d))) : E[l]? = some (some (m, d)) ∧ l ≠ j := by
  by_cases h : l = j
  · subst h
    by_cases hj : l < E.length
    · rw [List.getElem?_set_self hj] at e
      cases e
    · rw [List.getElem?_eq_none (by rw [List.length_set]; omega)] at e
      cases e
  · rw [List.getElem?_set_ne (Ne.symm h)] at e
    exact ⟨e, h⟩
theorem Rel.forget (R : Rel G C H σ E Fs) (j : Nat) : Rel G C H σ (E.set j none) Fs :=
  ⟨by rw [List.length_set]; exact R.len, fun i m d e => R.rd i m d (set_none_get e).1, fun i m d e hw => by
    obtain ⟨h1, h2, h3⟩ := R.nd i m d (set_none_get e).1 hw
    exact ⟨h1, h2, fun l m' d' hl el => h3 l m' d' hl (set_none_get el).1⟩, fun i m d e => R.nw i m d (set_none_get e).1, R.fr, R.pr, R.pt, R.tb⟩
end
def sMv (i j : Nat) : SF := fun E => match E[i]?, E[j]? with
  | some (some (m, .lst ds)), some (some (.own, d)) => if m.w && (i != j) && sl (decide (ds.length < sizeLine)) then some (.nx ((E.set j none).set i (some (m, .lst (ds ++ [d]))))) else none
  | _, _ => none
end
end VL
set_option maxHeartbeats 4000000
namespace VL
open PySem PySem.Spec PyProof.Rows L2
open GxR (TabB Tabbed)
variable [LamT]
noncomputable section
def pAddT : List D → Option D
  | [.tup xs, .tup ys] => if sl (decide (xs.length + ys.length ≤ sizeLine)) then some (.tup (xs ++ ys)) else none
  | ds => pAdd ds
end
end VL
set_option maxHeartbeats 4000000
namespace VL
open PySem PySem.Spec PyProof.Rows L2
open GxR (TabB Tabbed)
variable [LamT]
section
variable {G : Gb} {X : Cx}
theorem ve_gi {i : Int} {x : Str} {pos : Pos} (hg : Gl X x) (hm : ∃ t, X.mg x = some (.int i t)) (hd : (x == ("__debug__" : Str)) = false := by decide) : VE G X (.Name x pos) [] .own (eC (.int i)) := by
  obtain ⟨t, hm⟩ := hm
  exact PE.imp (pe_glob (v := .int i) hg hm ⟨t, rfl⟩ hd) fun σ H Q ⟨C, E, Fs, R, d, E', e, q⟩ => by
    cases e
    exact q _ H Fs [] R Stp.refl (hInt _ _ _) ⟨List.nodup_nil, fun a ha => by cases ha⟩
end
end VL
set_option maxHeartbeats 4000000
namespace VL
noncomputable section
open PySem PySem.Spec PyProof.Rows L2
open GxR (TabB Tabbed)
variable [LamT]
section
variable {G : Gb} {X : Cx}
def pOdd1 : List D → Option D
  | [.int i, .int j] => if sl (decide (0 ≤ i ∧ j = 1)) then some (.int (i % 2)) else none
  | _ => none
def pMinD : List D → Option D
  | [.lst ds, .int m] => match intsD ds with
    | some [] => some (.int m)
    | some (n :: ns) => some (.int (ns.foldl min n))
    | none => none
  | _ => none
def pMaxD : List D → Option D
  | [.lst ds, .int m] => match intsD ds with
    | some [] => some (.int m)
    | some (n :: ns) => some (.int (ns.foldl max n))
    | none => none
  | _ => none
variable {e e2 : Expr} {M M' : List Nat} {k k' : Kind} {f g : EF} {p pos kp : Pos}
end
end
end VL
set_option maxHeartbeats 4000000
namespace VL
noncomputable section
open PySem PySem.Spec PyProof.Rows L2
open GxR (TabB Tabbed)
variable [LamT]
def eCallT (F : FD) (IO : List Nat) (l : LF) : EF := fun E => match l E with
  | some (ds, E') => if ioW E' IO then (match F ds with
    | some (d, ds') => if ds'.length = IO.length + 1 then some (d, setIO E' IO ds') else none
    | none => none) else none
  | none => none
end
end VL
set_option maxHeartbeats 4000000
namespace VL
noncomputable section
open PySem PySem.Spec PyProof.Rows L2
open GxR (TabB Tabbed)
variable [LamT]
def eRow (l : LF) : EF := fun E => match l E with
  | some (ds, E') => some (.tup ds, E')
  | none => none
end
end VL
set_option maxHeartbeats 4000000
namespace VL
noncomputable section
open PySem PySem.Spec PyProof.Rows L2
open GxR (TabB Tabbed)
variable [LamT]
end
end VL
set_option maxHeartbeats 4000000
namespace VL
noncomputable section
open PySem PySem.Spec PyProof.Rows L2
open GxR (TabB Tabbed)
variable [LamT]
section
variable {G : Gb} {X : Cx} {tg iter tg1 iter1 : Expr} {ifs ifs1 : List Expr} {scope : Scope} {own : List (Str × Nat)} {p pos pos' : Pos} {M0 W W1 vs1 : List Nat} {k k1 ke kv : Kind} {src src1 : IF} {g g1 : Bool → D → Env → Option Env} {t t1 : TF} {f fk fv : EF} {kx vx : Expr}
def opUpd : OPD
  | .dct ks ds, [.dct ls es] => if sl ((ls.all fun k => ks.all fun k' => !decide (k' = k)) && decide (ks.length + ls.length ≤ sizeLine)) then some (.dct (ks ++ ls) (ds ++ es), .non) else none
  | _, _ => none
end
end
end VL
namespace VL
open PySem
end VL
set_option maxHeartbeats 4000000
namespace VL
open PySem PySem.Spec PyProof.Rows L2
open GxR (TabB Tabbed)
variable [LamT]
noncomputable section
def sExtF (i : Nat) (f : EF) : SF := fun E => match E[i]? with
  | some (some (m, .lst ds)) => (match f E with
    | some (.lst es, E') => if m.w && D.atomL es && sl (decide (ds.length + es.length ≤ sizeLine)) then some (.nx (E'.set i (some (m, .lst (ds ++ es))))) else none
    | _ => none)
  | _ => none
end
end VL
set_option maxHeartbeats 4000000
namespace VL
open PySem PySem.Spec PyProof.Rows L2
open GxR (TabB Tabbed)
variable [LamT]
def D.one : D → Bool
  | .tup [a, b] => a.atom && (b.atom || b.flat)
  | d => d.atom || d.flat
def sRetS (k : Kind) (f : EF) : SF := fun E => match f E with
  | some (d, E') => if allNew E' k.S && d.one then some (.rt d E') else none
  | none => none
end VL
set_option maxHeartbeats 4000000
namespace TA
open PySem PySem.Spec PyProof.Rows L2
end TA
namespace VL
open PySem PySem.Spec PyProof.Rows L2
open GxR (TabB Tabbed)
variable [LamT]
noncomputable section
def pMulT : List D → Option D
  | [.tup xs, .int k] => if sl (decide (D.atomL xs = true ∧ 1 ≤ xs.length ∧ 2 ≤ k ∧ k ≤ 1000 ∧ xs.length ≤ 1000)) then some (.tup (List.replicate k.toNat xs).flatten) else if sl (decide (D.atomL xs = true ∧ 1 ≤ xs.length ∧ k = 1)) then some (.tup xs) else if sl (decide (1 ≤ xs.length ∧ k = 0)) then some (.tup []) else none
  | ds => pMul ds
end
end VL
set_option maxHeartbeats 4000000
namespace VL
open PySem PySem.Spec PyProof.Rows L2
open GxR (TabB Tabbed)
variable [LamT]
noncomputable section
def eIdx (f g : EF) : EF := fun E => match f E with
  | some (.lst ds, E1) => (match g E1 with
    | some (d, E2) => (match flatD d, flatsD ds with
      | some v, some vs => (match vs.findIdx? fun z => eqV z v with
        | some j => some (.int (j : Int), E2)
        | none => none)
      | _, _ => none)
    | none => none)
  | _ => none
end
end VL
set_option maxHeartbeats 4000000
namespace TA
open PySem PySem.Spec PyProof.Rows L2
end TA
namespace VL
noncomputable section
open PySem PySem.Spec PyProof.Rows L2
open GxR (TabB Tabbed)
variable [LamT]
end
end VL
set_option maxHeartbeats 4000000
namespace VL
noncomputable section
open PySem PySem.Spec PyProof.Rows L2
open GxR (TabB Tabbed)
variable [LamT]
section
variable {G : Gb} {X : Cx}
theorem atomL_mem1 : ∀ {l r : List D} {d : D}, D.atomL (l ++ d :: r) = true → d.atom = true
  | [], _, _, h => by unfold D.atomL at h; exact (Bool.and_eq_true_iff.mp h).1
  | a :: l, _, _, h => by unfold D.atomL at h; exact atomL_mem1 (l := l) (Bool.and_eq_true_iff.mp h).2
theorem rdsL_snoc0 {H : Hp} {ys : List D} {vs : List V} {d : D} {v : V} (h : RdsL G H ys vs []) (r : Rds G H d v []) : RdsL G H (ys ++ [d]) (vs ++ [v]) [] :=
  rdsL_app (A := []) (B := []) h (rdsL_cons.mpr ⟨v, [], [], [], rfl, rfl, r, rdsL_nil.mpr ⟨rfl, rfl⟩⟩)
end
theorem XOk.gx {G : Gb} {X : Cx} (x : XOk G X) {k : Nat} {A : Around} (r : Room k A) {s : Shared} {H : Hp} {e : PySem.Env} {fp : List Addr} {pn : List (Addr × Obj)} : XOk G (TA.gxCx X A s H e fp pn) :=
  ⟨x.K, rfl, by have := r.un; show A.units + 3 + 70 < cLine; omega⟩
theorem fnVC {P : Program} {w : World} {G : Gb} {mg : Str → Option Value} {b0 : Heap} {x qu : Str} {st : Stmt} {f c : Addr} {fd : FuncData} {N ps : List Str} {k : Nat} {J : List Nat} {ro : Bool} {S : SF} (F : Fun G.K x qu st f fd) (hc : fd.code = .ref c) (Sc : FnScope N ps (defScope st)) (hn : ps.length ≤ N.length) (hJ : J.all (fun j => decide (j < ps.length)) = true)
    (hb : ∀ (B : Around) (ou : List PySem.Env) (s : Shared) (H : Hp) (E : XK), XOk G (cxOf CX0 P w G.K mg b0 N qu (defScope st) f (.ref c) B ou s H E).nox → (B.deeper (envOfC qu (defScope st) s.heap.objs.size f (.ref c))).guards = some [] → Room k (B.deeper (envOfC qu (defScope st) s.heap.objs.size f (.ref c))) →
      VSs G (cxOf CX0 P w G.K mg b0 N qu (defScope st) f (.ref c) B ou s H E).nox ro (defBody st) S) :
    TA.FnG P w G.K mg b0 CX0 (k + 1) f fd ps (spV G J ro ps.length (callD S N.length J)) := by
  obtain ⟨oc, od, kV, dc, pm, an, cdv, ct, osl, rfl, lk, hcd⟩ := F.ex
  cases (show cdv = .ref c from hc)
  refine TA.fnG_of lk hcd Sc spV_len fun B ou s H vs Q E hg hr h => ?_
  exact ⟨_, (hb B ou s H E ⟨rfl, rfl, show (B.deeper (envOfC qu (defScope st) s.heap.objs.size f (.ref c))).units + 70 < cLine by have := hr.un; omega⟩ hg hr).nox, post_call hn hJ h⟩
end
end VL
set_option maxHeartbeats 4000000
namespace VL
noncomputable section
open PySem PySem.Spec PyProof.Rows L2
open GxR (TabB Tabbed)
variable [LamT]
end
end VL
set_option maxHeartbeats 4000000
namespace VL
noncomputable section
open PySem PySem.Spec PyProof.Rows L2
open GxR (TabB Tabbed)
variable [LamT]
def AcN (H1 : Hp) (P : Addr) (A : List Addr) : Prop := A.Nodup ∧ ∀ a ∈ A, H1 a = none ∧ a ≠ P
theorem AcN.nil {H1 : Hp} {P : Addr} : AcN H1 P [] := ⟨List.nodup_nil, fun a ha => by cases ha⟩
theorem AcN.add {G : Gb} {σ : L2.St} {H1 H8 : Hp} {E : Env} {Fs : Nat → List Addr} {P : Addr} {A F : List Addr} {ys : List D} {us us0 : List V} {d : D} {v : V} (h : AcN H1 P A) (c : ∀ a, H8 a = none → H1 a = none) (hP : H8 P = some (.lst us0)) (r : RdsL G H8 ys us A) (k : KOk σ H8 E Fs .own d v F) : AcN H1 P (A ++ F) := by
  have lo : ∀ a ∈ F, H8 a = none := fun a ha => ((k.2 a ha).elim (fun ⟨_, z, _⟩ => by cases z) id : Loose H8 E Fs a).1
  refine ⟨?_, fun a ha => ?_⟩
  · rw [List.nodup_append]
    refine ⟨h.1, k.1, fun a ha b hb e => ?_⟩
    subst e
    obtain ⟨o, eo, _⟩ := RdsL.trk _ _ _ r a ha
    rw [lo a hb] at eo
    cases eo
  · rcases List.mem_append.mp ha with z | z
    · exact h.2 a z
    · refine ⟨c a (lo a z), fun e => ?_⟩
      have := lo a z
      rw [e, hP] at this
      cases this
section
variable {G : Gb} {X : Cx}
variable {elt tg iter tg1 iter1 : Expr} {ifs ifs1 : List Expr} {scope : Scope} {own : List (Str × Nat)} {pos : Pos} {M0 W W1 vs1 : List Nat} {k k1 : Kind} {src src1 : IF} {g g1 : Bool → D → Env → Option Env} {t t1 : TF} {f : EF}
end
end
end VL
set_option maxHeartbeats 4000000
namespace VL
open PySem PySem.Spec PyProof.Rows L2
theorem lNil_ap (E : Env) : lNil  E = (some ([], E)) := rfl
theorem lCons_ap (f : EF) (g : LF) (E : Env) : lCons f g E = (match f E with
  | some (d, E1) => (match g E1 with
    | some (ds, E2) => some (d :: ds, E2)
    | none => none)
  | none => none) := rfl
theorem ePrim_ap (p : List D → Option D) (l : LF) (E : Env) : ePrim p l E = (match l E with
  | some (ds, E') => (match p ds with
    | some d => some (d, E')
    | none => none)
  | none => none) := rfl
theorem eVar_ap (i : Nat) (E : Env) : eVar i E = (match E[i]? with
  | some (some (_, d)) => some (d, E)
  | _ => none) := rfl
theorem eC_ap (d : D) (E : Env) : eC d E = (some (d, E)) := rfl
theorem pTup_ap (ds : List D) : pTup  ds = (if sl (decide (ds.length ≤ sizeLine)) then some (.tup ds) else none) := rfl
theorem pLst_ap (ds : List D) : pLst  ds = (if sl (decide (ds.length ≤ sizeLine)) then some (.lst ds) else none) := rfl
theorem toT_ap (f : EF) (E : Env) : toT f E = (match f E with
  | some (.bl b, E') => some (b, E')
  | _ => none) := rfl
theorem tfAnd_ap (f g : TF) (E : Env) : tfAnd f g E = (match f E with
  | some (true, E') => g E'
  | some (false, E') => some (false, E')
  | none => none) := rfl
theorem tfOr_ap (f g : TF) (E : Env) : tfOr f g E = (match f E with
  | some (false, E') => g E'
  | some (true, E') => some (true, E')
  | none => none) := rfl
theorem tfNot_ap (f : TF) (E : Env) : tfNot f E = (match f E with
  | some (b, E') => some (!b, E')
  | none => none) := rfl
theorem eIf_ap (t : TF) (f g : EF) (E : Env) : eIf t f g E = (match t E with
  | some (true, E') => f E'
  | some (false, E') => g E'
  | none => none) := rfl
theorem oNone_ap (E : Env) : oNone  E = (some (none, E)) := rfl
theorem oSome_ap (f : EF) (E : Env) : oSome f E = (match f E with
  | some (.int i, E') => some (some i, E')
  | _ => none) := rfl
theorem eSlice_ap (f : EF) (lo hi : OF) (E : Env) : eSlice f lo hi E = (match f E with
  | some (d, E1) => (match lo E1 with
    | some (l, E2) => (match hi E2 with
      | some (u, E3) => (match pSlice l u [d] with
        | some r => some (r, E3)
        | none => none)
      | none => none)
    | none => none)
  | none => none) := rfl
theorem toTr_ap (f : EF) (E : Env) : toTr f E = (match f E with
  | some (d, E') => (match d.tru with
    | some b => some (b, E')
    | none => none)
  | none => none) := rfl
theorem rg1_ap (f : EF) (E : Env) : rg1 f E = (match f E with
  | some (.int n, E') => some (0, n, E')
  | _ => none) := rfl
theorem rg2_ap (f g : EF) (E : Env) : rg2 f g E = (match lCons f (lCons g lNil) E with
  | some ([.int i, .int j], E') => some (i, j, E')
  | _ => none) := rfl
theorem eListRg_ap (r : RF) (E : Env) : eListRg r E = (match r E with
  | some (a, b, E') => if rgOk a b then some (.lst ((rgI a b).map .int), E') else none
  | none => none) := rfl
theorem sNext_ap (E : Env) : sNext  E = (some (.nx E)) := rfl
theorem sSeq_ap (S T : SF) (E : Env) : sSeq S T E = (match S E with
  | some (.nx E') => T E'
  | r => r) := rfl
theorem sDrop_ap (f : EF) (E : Env) : sDrop f E = (match f E with
  | some (_, E') => some (.nx E')
  | none => none) := rfl
theorem sRet_ap (ro : Bool) (k : Kind) (f : EF) (E : Env) : sRet ro k f E = (match f E with
  | some (d, E') => if retOk ro k E' d then some (.rt d E') else none
  | none => none) := rfl
theorem sRetN_ap (E : Env) : sRetN  E = (some (.rt .non E)) := rfl
theorem sIf_ap (t : TF) (S T : SF) (E : Env) : sIf t S T E = (match t E with
  | some (true, E') => S E'
  | some (false, E') => T E'
  | none => none) := rfl
theorem sSet_ap (i : Nat) (k : Kind) (f : EF) (E : Env) : sSet i k f E = (match f E with
  | some (d, E') => if i < E'.length then some (.nx (putE E' i k d)) else none
  | none => none) := rfl
theorem gSet_ap (bk : BK) (i : Nat) (d : D) (E : Env) : gSet bk i d E = (if i < E.length then some (bindN bk i d E) else none) := rfl
theorem sAsg_ap (f : EF) (g : D → Env → Option Env) (E : Env) : sAsg f g E = (match f E with
  | some (d, E') => (match g d E' with
    | some E2 => some (.nx E2)
    | none => none)
  | none => none) := rfl
theorem sFor_ap (k : Kind) (f : IF) (g : Bool → D → Env → Option Env) (b : SF) (E : Env) : sFor k f g b E = (match f E with
  | some (ds, E') => forL (g (newAll E' k.S)) b ds (freeze E' k.S)
  | none => none) := rfl
theorem iSeq_ap (f : EF) (E : Env) : iSeq f E = (match f E with
  | some (d, E') => (match d.items with
    | some ds => some (ds, E')
    | none => none)
  | none => none) := rfl
theorem iRg_ap (r : RF) (E : Env) : iRg r E = (match r E with
  | some (a, b, E') => if rgOk a b then some ((rgI a b).map .int, E') else none
  | none => none) := rfl
theorem iEnm_ap (f : EF) (E : Env) : iEnm f E = (match f E with
  | some (d, E') => (match d.items with
    | some ds => some (enumD 0 ds, E')
    | none => none)
  | none => none) := rfl
theorem callD_ap (S : SF) (N : Nat) (J : List Nat) (ds : List D) : callD S N J ds = (match S (startE N J ds) with
  | some (.rt d E) => (match ioOut E J with
    | some ds' => some (d, ds')
    | none => none)
  | some (.nx E) => (match ioOut E J with
    | some ds' => some (.non, ds')
    | none => none)
  | _ => none) := rfl
theorem eCall_ap (F : FD) (IO : List Nat) (l : LF) (E : Env) : eCall F IO l E = (match l E with
  | some (ds, E') => if ioW E' IO then (match F ds with
    | some (d, ds') => if ds'.length = IO.length then some (d, setIO E' IO ds') else none
    | none => none) else none
  | none => none) := rfl
theorem tYesF_ap (E : Env) : tYesF  E = (some (true, E)) := rfl
theorem pName_ap (i : Nat) (E : Env) : pName i E = (match E[i]? with
  | some (some _) => some ([], E)
  | _ => none) := rfl
theorem pSub1_ap (i : Nat) (pf : PF) (f : EF) (E : Env) : pSub1 i pf f E = (match pf E with
  | some (p, E1) => if hasP E1 i p then (match f E1 with
    | some (.int j, E2) => if hasP E2 i (p ++ [.ix j]) then some (p ++ [.ix j], E2) else none
    | _ => none) else none
  | none => none) := rfl
theorem eMut_ap (T : String) (i : Nat) (pf : PF) (ks : List Kind) (l : LF) (op : OPD) (E : Env) : eMut T i pf ks l op E = (match pf E with
  | some (p, E1) => if hasT T E1 i p then (match l E1 with
    | some (ds, E2) => if storL ks ds then (match E2[i]? with
      | some (some (m, d)) => if m.w then (match getP p d with
        | some sd => (match op sd ds with
          | some (sd', res) => if res.atom then (match setP p d sd' with
            | some d' => some (res, E2.set i (some (m, d')))
            | none => none) else none
          | none => none)
        | none => none) else none
      | _ => none) else none
    | none => none) else none
  | none => none) := rfl
theorem sSetIt_ap (i : Nat) (k : Kind) (f : EF) (pf : PF) (g : EF) (E : Env) : sSetIt i k f pf g E = (match f E with
  | some (d, E1) => (match pf E1 with
    | some (p, E2) => if hasP E2 i p then (match g E2 with
      | some (ix, E3) => if storable k d && ix.atom then (match E3[i]? with
        | some (some (m, dd)) => if m.w then (match getP p dd with
          | some sd => (match opSet sd [ix, d] with
            | some (sd', _) => (match setP p dd sd' with
              | some d' => some (.nx (E3.set i (some (m, d'))))
              | none => none)
            | none => none)
          | none => none) else none
        | _ => none) else none
      | none => none) else none
    | none => none)
  | none => none) := rfl
theorem eDict0_ap (E : Env) : eDict0  E = (some (.dct [] [], E)) := rfl
theorem eDict1_ap (f g : EF) (E : Env) : eDict1 f g E = (match f E with
  | some (kd, E1) => (match keyD kd with
    | some k => (match g E1 with
      | some (d, E2) => some (.dct [k] [d], E2)
      | none => none)
    | none => none)
  | none => none) := rfl
theorem eAnd_ap (f g : EF) (E : Env) : eAnd f g E = (match f E with
  | some (d, E') => (match d.tru with
    | some true => g E'
    | some false => some (d, E')
    | none => none)
  | none => none) := rfl
theorem eOr_ap (f g : EF) (E : Env) : eOr f g E = (match f E with
  | some (d, E') => (match d.tru with
    | some true => some (d, E')
    | some false => g E'
    | none => none)
  | none => none) := rfl
theorem eNot_ap (f : EF) (E : Env) : eNot f E = (match f E with
  | some (d, E') => (match d.tru with
    | some b => some (.bl (!b), E')
    | none => none)
  | none => none) := rfl
theorem gSetIt_ap (i : Nat) (k : Kind) (pf : PF) (g : EF) (d : D) (E1 : Env) : gSetIt i k pf g d E1 = (match pf E1 with
  | some (p, E2) => if hasP E2 i p then (match g E2 with
    | some (ix, E3) => if storable k d && ix.atom then (match E3[i]? with
      | some (some (m, dd)) => if m.w then (match getP p dd with
        | some sd => (match opSet sd [ix, d] with
          | some (sd', _) => (match setP p dd sd' with
            | some d' => some (E3.set i (some (m, d')))
            | none => none)
          | none => none)
        | none => none) else none
      | _ => none) else none
    | none => none) else none
  | none => none) := rfl
theorem sPairSet_ap (i : Nat) (pf : PF) (g : EF) (j : Nat) (f : EF) (E : Env) : sPairSet i pf g j f E = (match f E with
  | some (.tup [.int a, .int b], E1) => (match gSetIt i .own pf g (.int a) E1 with
    | some E2 => if j < E2.length then some (.nx (E2.set j (some (.own, .int b)))) else none
    | none => none)
  | _ => none) := rfl
theorem lRef_ap (i : Nat) (g : LF) (E : Env) : lRef i g E = (match E[i]? with
  | some (some _) => (match g E with
    | some (ds, E') => (match E'[i]? with
      | some (some (_, d)) => some (d :: ds, E')
      | _ => none)
    | none => none)
  | _ => none) := rfl
theorem eOwn_ap (k : Kind) (f : EF) (E : Env) : eOwn k f E = (match f E with
  | some (d, E') => if storable k d then some (d, E') else none
  | none => none) := rfl
theorem sPar2_ap (i j : Nat) (l : LF) (E : Env) : sPar2 i j l E = (match l E with
  | some ([d, d'], E') => if i < E'.length ∧ j < E'.length then some (.nx ((E'.set i (some (.own, d))).set j (some (.own, d')))) else none
  | _ => none) := rfl
theorem eChain_ap (o1 o2 : Int → Int → Bool) (f g h : EF) (E : Env) : eChain o1 o2 f g h E = (match lCons f (lCons g lNil) E with
  | some ([.int i, .int j], E2) => if o1 i j then (match h E2 with
    | some (.int k, E3) => some (.bl (o2 j k), E3)
    | _ => none) else some (.bl false, E2)
  | _ => none) := rfl
theorem sAug_ap (op : Int → Int → Int) (i : Nat) (f : EF) (E : Env) : sAug op i f E = (match E[i]? with
  | some (some (_, .int a)) => (match f E with
    | some (.int b, E') => if i < E'.length then some (.nx (E'.set i (some (.own, .int (op a b))))) else none
    | _ => none)
  | _ => none) := rfl
theorem sAugIt_ap (op : Int → Int → Int) (i : Nat) (g f : EF) (E : Env) : sAugIt op i g f E = (match E[i]? with
  | some (some (m, .lst ds)) => if m.w then (match g E with
    | some (.int j, E1) => (match f E1 with
      | some (.int b, E2) => (if 0 ≤ j then (match ds[j.toNat]? with
        | some (.int a) => some (.nx (E2.set i (some (m, .lst (ds.set j.toNat (.int (op a b)))))))
        | _ => none) else none)
      | _ => none)
    | _ => none) else none
  | _ => none) := rfl
theorem sRetT_ap (ks : List Kind) (l : LF) (E : Env) : sRetT ks l E = (match l E with
  | some (ds, E') => if retTs E' ks ds [] && sl (decide (ds.length ≤ sizeLine)) then some (.rt (.tup ds) E') else none
  | none => none) := rfl
theorem sCat_ap (i : Nat) (p : List D → Option D) (l : LF) (E : Env) : sCat i p l E = (match l E with
  | some (ds, E') => (match p ds with
    | some d => (match E'[i]? with
      | some (some (.own, _)) => some (.nx (E'.set i (some (.own, d))))
      | _ => none)
    | none => none)
  | none => none) := rfl
theorem iZip2_ap (f g : EF) (E : Env) : iZip2 f g E = (match lCons f (lCons g lNil) E with
  | some ([d, d'], E') => (match d.items, d'.items with
    | some ds, some es => if d.isTup == d'.isTup then some (zipD ds es, E') else none
    | _, _ => none)
  | _ => none) := rfl
theorem eCallP_ap (F : FD) (i : Nat) (pf : PF) (E : Env) : eCallP F i pf E = (match pf E with
  | some (p, E1) => if hasP E1 i p then (match E1[i]? with
    | some (some (m, d)) => if m.w then (match getP p d with
      | some sd => (match F [sd] with
        | some (r, [sd']) => (match setP p d sd' with
          | some d' => some (r, E1.set i (some (m, d')))
          | none => none)
        | _ => none)
      | none => none) else none
    | _ => none) else none
  | none => none) := rfl
theorem sMv_ap (i j : Nat) (E : Env) : sMv i j E = (match E[i]?, E[j]? with
  | some (some (m, .lst ds)), some (some (.own, d)) => if m.w && (i != j) && sl (decide (ds.length < sizeLine)) then some (.nx ((E.set j none).set i (some (m, .lst (ds ++ [d]))))) else none
  | _, _ => none) := rfl
theorem eCallT_ap (F : FD) (IO : List Nat) (l : LF) (E : Env) : eCallT F IO l E = (match l E with
  | some (ds, E') => if ioW E' IO then (match F ds with
    | some (d, ds') => if ds'.length = IO.length + 1 then some (d, setIO E' IO ds') else none
    | none => none) else none
  | none => none) := rfl
theorem eRow_ap (l : LF) (E : Env) : eRow l E = (match l E with
  | some (ds, E') => some (.tup ds, E')
  | none => none) := rfl
theorem sExtF_ap (i : Nat) (f : EF) (E : Env) : sExtF i f E = (match E[i]? with
  | some (some (m, .lst ds)) => (match f E with
    | some (.lst es, E') => if m.w && D.atomL es && sl (decide (ds.length + es.length ≤ sizeLine)) then some (.nx (E'.set i (some (m, .lst (ds ++ es))))) else none
    | _ => none)
  | _ => none) := rfl
theorem sRetS_ap (k : Kind) (f : EF) (E : Env) : sRetS k f E = (match f E with
  | some (d, E') => if allNew E' k.S && d.one then some (.rt d E') else none
  | none => none) := rfl
theorem eIdx_ap (f g : EF) (E : Env) : eIdx f g E = (match f E with
  | some (.lst ds, E1) => (match g E1 with
    | some (d, E2) => (match flatD d, flatsD ds with
      | some v, some vs => (match vs.findIdx? fun z => eqV z v with
        | some j => some (.int (j : Int), E2)
        | none => none)
      | _, _ => none)
    | none => none)
  | _ => none) := rfl
end VL
set_option maxHeartbeats 4000000
namespace VL
variable [LamT]
open PySem PySem.Spec PyProof.Rows L2
section
variable {g : D → Env → Option Env} {b : SF} {t : TF} {f : EF} {vs : List Nat}
theorem lcL_inv_aux (I : Nat → List D → Env → Prop) : ∀ (ds : List D) (k : Nat) (acc : List D) (E : Env),
    (∀ i d acc E, ds[i]? = some d → I (k + i) acc E → ∃ E1 b E2, g d E = some E1 ∧ t E1 = some (b, E2) ∧ (b = false → I (k + i + 1) acc (wipeE E2 vs)) ∧ (b = true → ∃ y E3, f E2 = some (y, E3) ∧ I (k + i + 1) (acc ++ [y]) (wipeE E3 vs))) →
    I k acc E → ∃ ys E', lcL g t f vs ds E = some (ys, E') ∧ I (k + ds.length) (acc ++ ys) E'
  | [], k, acc, E, _, h => ⟨[], E, rfl, by simpa using h⟩
  | d :: ds, k, acc, E, st, h => by
    obtain ⟨E1, bb, E2, h1, h2, h3, h4⟩ := st 0 d acc E rfl h
    have st' : ∀ i d acc E, ds[i]? = some d → I (k + 1 + i) acc E → ∃ E1 b E2, g d E = some E1 ∧ t E1 = some (b, E2) ∧ (b = false → I (k + 1 + i + 1) acc (wipeE E2 vs)) ∧ (b = true → ∃ y E3, f E2 = some (y, E3) ∧ I (k + 1 + i + 1) (acc ++ [y]) (wipeE E3 vs)) := fun i d' acc' E' hd hi => by
      have := st (i + 1) d' acc' E' (by simpa using hd) (by rw [← Nat.add_assoc, Nat.add_right_comm]; exact hi)
      rw [show k + 1 + i + 1 = k + (i + 1) + 1 by omega]
      exact this
    cases bb with
    | false =>
      obtain ⟨ys, E', h5, h6⟩ := lcL_inv_aux I ds (k + 1) acc _ st' (h3 rfl)
      refine ⟨ys, E', ?_, by rw [List.length_cons, show k + (ds.length + 1) = k + 1 + ds.length by omega]; exact h6⟩
      simp only [lcL, h1, h2]
      exact h5
    | true =>
      obtain ⟨y, E3, h7, h8⟩ := h4 rfl
      obtain ⟨ys, E', h5, h6⟩ := lcL_inv_aux I ds (k + 1) (acc ++ [y]) _ st' h8
      refine ⟨y :: ys, E', ?_, by rw [List.length_cons, show k + (ds.length + 1) = k + 1 + ds.length by omega]; simpa using h6⟩
      simp only [lcL, h1, h2, h7, h5]
theorem lcL_inv (I : Nat → List D → Env → Prop) {ds : List D} {E : Env} (h : I 0 [] E)
    (st : ∀ i d acc E, ds[i]? = some d → I i acc E → ∃ E1 b E2, g d E = some E1 ∧ t E1 = some (b, E2) ∧ (b = false → I (i + 1) acc (wipeE E2 vs)) ∧ (b = true → ∃ y E3, f E2 = some (y, E3) ∧ I (i + 1) (acc ++ [y]) (wipeE E3 vs))) :
    ∃ ys E', lcL g t f vs ds E = some (ys, E') ∧ I ds.length ys E' := by
  obtain ⟨ys, E', h1, h2⟩ := lcL_inv_aux (g := g) (t := t) (f := f) (vs := vs) I ds 0 [] E (fun i d acc E hd hi => by rw [Nat.zero_add] at hi ⊢; exact st i d acc E hd hi) h
  rw [Nat.zero_add, List.nil_append] at h2
  exact ⟨ys, E', h1, h2⟩
theorem eLc_eq {k : Kind} {src : IF} {g : Bool → D → Env → Option Env} {M : List Nat} {E E1 E2 E3 : Env} {ds ys : List D} (h1 : src E = some (ds, E1)) (h2 : lcL (g (newAll E1 k.S)) t f vs ds (wipeE (freeze E1 k.S) vs) = some (ys, E2)) (h3 : ds.length ≤ sizeLine) (h4 : setM E1 E2 M = E3) :
    eLc k src g t f vs M E = some (.lst ys, E3) := by
  unfold eLc
  rw [h1]
  simp only [h2]
  rw [if_pos (sl_iff.mpr h3), h4]
end
abbrev nm (k : Nat) : D := .int (k : Int)
theorem rgI_nat (n : Nat) : rgI 0 (n : Int) = (List.range n).map fun (i : Nat) => (i : Int) := by
  unfold rgI
  rw [Int.sub_zero, Int.toNat_natCast]
  exact List.map_congr_left fun i _ => by omega
theorem rg_nat (n : Nat) : (rgI 0 (n : Int)).map D.int = (List.range n).map nm := by
  rw [rgI_nat, List.map_map]
  rfl
theorem rgOk_iff {a b : Int} : rgOk a b = true ↔ (-(2 ^ 62) ≤ a ∧ a < 2 ^ 62 ∧ -(2 ^ 62) ≤ b ∧ b < 2 ^ 62 ∧ (b - a).toNat ≤ 2 ^ 24) := by
  unfold rgOk
  exact sl_iff
theorem rgOk_nat {n : Nat} (h : n ≤ 1000) : rgOk 0 (n : Int) = true := by
  rw [rgOk_iff]
  omega
theorem rg_get {n i : Nat} {d : D} (h : ((List.range n).map nm)[i]? = some d) : i < n ∧ d = nm i := by
  rw [List.getElem?_map] at h
  by_cases hi : i < n
  · rw [List.getElem?_range hi] at h
    cases h
    exact ⟨hi, rfl⟩
  · rw [List.getElem?_eq_none (by simpa using hi)] at h
    cases h
theorem flatsD_nm : ∀ ss : List Nat, flatsD (ss.map nm) = some (ss.map fun (k : Nat) => V.int (k : Int))
  | [] => rfl
  | n :: ns => by
    show flatsD (.int n :: ns.map nm) = _
    unfold flatsD
    rw [flatsD_nm ns]
    rfl
theorem inV_nm (a : Nat) (ss : List Nat) : inV (V.int (a : Int)) (ss.map fun (k : Nat) => V.int (k : Int)) = decide (a ∈ ss) := by
  unfold inV
  rw [List.any_map]
  rw [Bool.eq_iff_iff]
  simp only [List.any_eq_true, Function.comp, decide_eq_true_eq]
  constructor
  · rintro ⟨x, hx, h⟩
    have h' : ((x : Int) == (a : Int)) = true := h
    have h2 : (x : Int) = (a : Int) := by simpa using h'
    have : x = a := by omega
    rw [← this]
    exact hx
  · intro h
    exact ⟨a, h, show ((a : Int) == (a : Int)) = true by simp⟩
theorem atomL_app : ∀ a b : List D, D.atomL (a ++ b) = (D.atomL a && D.atomL b)
  | [], b => by simp [D.atomL]
  | d :: a, b => by simp [D.atomL, atomL_app a b, Bool.and_assoc]
theorem atI_nat {α : Type} (xs : List α) (i : Nat) : atI xs (i : Int) = xs[i]? := by
  unfold atI ixN
  by_cases h : i < xs.length
  · simp [h]
  · simp [h]
theorem pyL_nm : ∀ ss : List Nat, D.pyL (ss.map nm) = some (ss.map fun (k : Nat) => PyData.int (k : Int))
  | [] => rfl
  | n :: ns => by
    show D.pyL (.int n :: ns.map nm) = _
    unfold D.pyL
    rw [pyL_nm ns]
    rfl
theorem pEq_int (neg : Bool) (i j : Int) : pEq neg [.int i, .int j] = some (.bl (if neg then !decide (i = j) else decide (i = j))) := rfl
theorem pEq_bl (neg a b : Bool) : pEq neg [.bl a, .bl b] = some (.bl (if neg then !decide (a = b) else decide (a = b))) := rfl
theorem pEq_str (neg : Bool) (a b : Str) : pEq neg [.str a, .str b] = some (.bl (if neg then !decide (a = b) else decide (a = b))) := rfl
theorem lay_ints : ∀ ns : List Int, PyData.canLayAll0 (ns.map .int) = true
  | [] => rfl
  | n :: ns => by
    show PyData.canLayAll0 (.int n :: ns.map .int) = true
    rw [PyData.canLayAll0, lay_ints ns]
    rfl
theorem shaped_row (ns : List Int) : SeqAt.shaped (TA.rowD ns) = true := by
  unfold SeqAt.shaped
  have e1 : (TA.rowD ns).canLay0 = true := by simpa only [PyData.canLay0] using lay_ints ns
  have e2 : (TA.rowD ns).depth = 1 := by
    simp only [PyData.depth]
    rw [PySem.W.depth_ints]
  rw [e1, e2]
  rfl
theorem cast_inj : ∀ {as bs : List Nat}, (as.map fun (k : Nat) => (k : Int)) = (bs.map fun (k : Nat) => (k : Int)) → as = bs
  | [], [], _ => rfl
  | [], _ :: _, h => by simp at h
  | _ :: _, [], h => by simp at h
  | a :: as, b :: bs, h => by
    rw [List.map_cons, List.map_cons, List.cons.injEq] at h
    rw [cast_inj h.2, show a = b by omega]
theorem shaped_nm (ks : List Nat) : SeqAt.shaped (.list (ks.map fun (k : Nat) => PyData.int (k : Int))) = true := by
  have h := shaped_row (ks.map fun (k : Nat) => (k : Int))
  unfold TA.rowD at h
  rw [List.map_map] at h
  exact h
theorem eqv_nm (as bs : List Nat) : PyData.eqv (.list (as.map fun (k : Nat) => PyData.int (k : Int))) (.list (bs.map fun (k : Nat) => PyData.int (k : Int))) = decide (as = bs) := by
  have h := TA.eqv_row (as.map fun (k : Nat) => (k : Int)) (bs.map fun (k : Nat) => (k : Int))
  unfold TA.rowD at h
  rw [List.map_map, List.map_map] at h
  refine Eq.trans h ?_
  rw [Bool.eq_iff_iff]
  simp only [decide_eq_true_eq]
  constructor
  · exact cast_inj
  · intro e
    rw [e]
theorem pEq_nm (neg : Bool) (as bs : List Nat) : pEq neg [.lst (as.map nm), .lst (bs.map nm)] = some (.bl (if neg then !decide (as = bs) else decide (as = bs))) := by
  have h : pEq neg [.lst (as.map nm), .lst (bs.map nm)] = pEqv neg [.lst (as.map nm), .lst (bs.map nm)] := rfl
  rw [h]
  simp only [pEqv, D.py, pyL_nm, Option.map_some, shaped_nm, eqv_nm, Bool.and_self, if_true]
theorem pEq_nil (neg : Bool) (as : List Nat) : pEq neg [.lst (as.map nm), .lst []] = some (.bl (if neg then !decide (as = []) else decide (as = []))) := pEq_nm neg as []
theorem pIn_lst (neg : Bool) (a : Nat) (ss : List Nat) : pIn neg [.int (a : Int), .lst (ss.map nm)] = some (.bl (if neg then !decide (a ∈ ss) else decide (a ∈ ss))) := by
  simp only [pIn, D.has, flatD, flatsD_nm, inV_nm, Option.map_some]
theorem pIn_tup (neg : Bool) (a : Nat) (ss : List Nat) : pIn neg [.int (a : Int), .tup (ss.map nm)] = some (.bl (if neg then !decide (a ∈ ss) else decide (a ∈ ss))) := by
  simp only [pIn, D.has, flatD, flatsD_nm, inV_nm, Option.map_some]
theorem atI_0 {α : Type} (x : α) (xs : List α) : atI (x :: xs) 0 = some x := by
  have := atI_nat (x :: xs) 0
  simpa using this
theorem atI_1 {α : Type} (x y : α) (xs : List α) : atI (x :: y :: xs) 1 = some y := by
  have := atI_nat (x :: y :: xs) 1
  simpa using this
theorem atI_2 {α : Type} (x y z : α) (xs : List α) : atI (x :: y :: z :: xs) 2 = some z := by
  have := atI_nat (x :: y :: z :: xs) 2
  simpa using this
theorem atI_3 {α : Type} (x y z u : α) (xs : List α) : atI (x :: y :: z :: u :: xs) 3 = some u := by
  have := atI_nat (x :: y :: z :: u :: xs) 3
  simpa using this
end VL
set_option maxHeartbeats 4000000
namespace VL
variable [LamT]
open PySem PySem.Spec PyProof.Rows L2
mutual
def D.sh (b : Bool) : Nat → D → Bool
  | _, .non => true
  | _, .bl _ => b
  | _, .int _ => true
  | _, .str s => PyData.strOk s
  | n + 1, .tup ds => D.shL b n ds
  | n + 1, .lst ds => D.shL b n ds
  | _, _ => false
def D.shL (b : Bool) : Nat → List D → Bool
  | _, [] => true
  | n, d :: ds => D.sh b n d && D.shL b n ds
end
theorem shL_iff {b : Bool} {n : Nat} : ∀ {ds : List D}, D.shL b n ds = true ↔ ∀ d ∈ ds, D.sh b n d = true
  | [] => by simp [D.shL]
  | d :: ds => by simp [D.shL, shL_iff (ds := ds)]
theorem sh_int {b : Bool} {n : Nat} (i : Int) : D.sh b n (.int i) = true := by unfold D.sh; rfl
theorem sh_str {b : Bool} {n : Nat} {s : Str} (h : PyData.strOk s = true) : D.sh b n (.str s) = true := by unfold D.sh; exact h
theorem sh_lst {b : Bool} {n : Nat} {ds : List D} : D.sh b (n + 1) (.lst ds) = true ↔ ∀ d ∈ ds, D.sh b n d = true := by
  rw [← shL_iff]
  unfold D.sh
  rfl
theorem sh_tup {b : Bool} {n : Nat} {ds : List D} : D.sh b (n + 1) (.tup ds) = true ↔ ∀ d ∈ ds, D.sh b n d = true := by
  rw [← shL_iff]
  unfold D.sh
  rfl
mutual
theorem sh_py {b : Bool} : ∀ (n : Nat) (d : D), D.sh b n d = true → ∃ p, d.py = some p ∧ p.canLay0 = true ∧ p.depth ≤ n
  | n, .non, _ => ⟨.none, by unfold D.py; rfl, by simp [PyData.canLay0], by simp [PyData.depth]⟩
  | n, .bl x, _ => ⟨.bool x, by unfold D.py; rfl, by simp [PyData.canLay0], by simp [PyData.depth]⟩
  | n, .int i, _ => ⟨.int i, by unfold D.py; rfl, by simp [PyData.canLay0], by simp [PyData.depth]⟩
  | n, .str s, h => ⟨.str s, by unfold D.py; rfl, by unfold D.sh at h; simpa [PyData.canLay0] using h, by simp [PyData.depth]⟩
  | n + 1, .tup ds, h => by
    unfold D.sh at h
    obtain ⟨ps, e, h1, h2⟩ := shL_py n ds h
    exact ⟨.tuple ps, by unfold D.py; rw [e]; rfl, by simpa [PyData.canLay0] using h1, by simp [PyData.depth]; omega⟩
  | n + 1, .lst ds, h => by
    unfold D.sh at h
    obtain ⟨ps, e, h1, h2⟩ := shL_py n ds h
    exact ⟨.list ps, by unfold D.py; rw [e]; rfl, by simpa [PyData.canLay0] using h1, by simp [PyData.depth]; omega⟩
  | 0, .tup ds, h => by unfold D.sh at h; cases h
  | 0, .lst ds, h => by unfold D.sh at h; cases h
  | _, .dct _ _, h => by unfold D.sh at h; cases h
  | _, .obj _ _ _, h => by unfold D.sh at h; cases h
  | _, .scr _, h => by unfold D.sh at h; cases h
theorem shL_py {b : Bool} : ∀ (n : Nat) (ds : List D), D.shL b n ds = true → ∃ ps, D.pyL ds = some ps ∧ PyData.canLayAll0 ps = true ∧ PyData.depthAll ps ≤ n
  | n, [], _ => ⟨[], by unfold D.pyL; rfl, by simp [PyData.canLayAll0], by simp [PyData.depthAll]⟩
  | n, d :: ds, h => by
    unfold D.shL at h
    rw [Bool.and_eq_true] at h
    obtain ⟨p, e1, h1, h2⟩ := sh_py n d h.1
    obtain ⟨ps, e2, h3, h4⟩ := shL_py n ds h.2
    exact ⟨p :: ps, by unfold D.pyL; rw [e1, e2], by simp [PyData.canLayAll0, h1, h3], by simp [PyData.depthAll]; omega⟩
end
mutual
theorem py_ne : ∀ (n : Nat) (x y : D) (p q : PyData), D.sh false n x = true → D.sh false n y = true → x.py = some p → y.py = some q → PyData.eqv p q = true → x = y
  | n, x, y, p, q, hx, hy, ex, ey, h => by
    cases n with
    | zero =>
      cases x <;> unfold D.sh at hx <;> first | cases hx | skip
      all_goals
        cases y <;> unfold D.sh at hy <;> first | cases hy | skip
      all_goals
        unfold D.py at ex ey
        cases ex
        cases ey
        first
        | rfl
        | (simp [PyData.eqv] at h; first | (subst h; rfl) | done)
        | (exfalso; revert h; simp [PyData.eqv]; done)
    | succ n =>
      cases x <;> unfold D.sh at hx <;> first | cases hx | skip
      all_goals
        cases y <;> unfold D.sh at hy <;> first | cases hy | skip
      all_goals
        unfold D.py at ex ey
        first
        | (obtain ⟨ps, e1, rfl⟩ := Option.map_eq_some_iff.mp ex
           obtain ⟨qs, e2, rfl⟩ := Option.map_eq_some_iff.mp ey
           first
           | (rw [PyData.eqv] at h
              rw [pyL_ne n _ _ _ _ hx hy e1 e2 h])
           | (exfalso; revert h; simp [PyData.eqv]; done))
        | (obtain ⟨ps, e1, rfl⟩ := Option.map_eq_some_iff.mp ex
           cases ey
           exfalso; revert h; simp [PyData.eqv]; done)
        | (obtain ⟨qs, e2, rfl⟩ := Option.map_eq_some_iff.mp ey
           cases ex
           exfalso; revert h; simp [PyData.eqv]; done)
        | (cases ex
           cases ey
           first
           | rfl
           | (simp [PyData.eqv] at h; first | (subst h; rfl) | done)
           | (exfalso; revert h; simp [PyData.eqv]; done))
theorem pyL_ne : ∀ (n : Nat) (xs ys : List D) (ps qs : List PyData), D.shL false n xs = true → D.shL false n ys = true → D.pyL xs = some ps → D.pyL ys = some qs → PyData.eqvAll ps qs = true → xs = ys
  | n, [], [], _, _, _, _, _, _, _ => rfl
  | n, [], y :: ys, ps, qs, hx, hy, ex, ey, h => by
    exfalso
    unfold D.pyL at ex ey
    cases ex
    split at ey
    · cases ey
      simp [PyData.eqvAll] at h
    · cases ey
  | n, x :: xs, [], ps, qs, hx, hy, ex, ey, h => by
    exfalso
    unfold D.pyL at ex ey
    cases ey
    split at ex
    · cases ex
      simp [PyData.eqvAll] at h
    · cases ex
  | n, x :: xs, y :: ys, ps, qs, hx, hy, ex, ey, h => by
    unfold D.shL at hx hy
    rw [Bool.and_eq_true] at hx hy
    unfold D.pyL at ex ey
    split at ex
    · rename_i p ps' e1 e2
      cases ex
      split at ey
      · rename_i q qs' e3 e4
        cases ey
        rw [PyData.eqvAll, Bool.and_eq_true] at h
        rw [py_ne n x y p q hx.1 hy.1 e1 e3 h.1, pyL_ne n xs ys ps' qs' hx.2 hy.2 e2 e4 h.2]
      · cases ey
    · cases ex
end
theorem pEq_gen {neg : Bool} {x y : D} {p q : PyData} (hx : x.py = some p) (hy : y.py = some q) (sx : SeqAt.shaped p = true) (sy : SeqAt.shaped q = true) : pEq neg [x, y] = some (.bl (if neg then !PyData.eqv p q else PyData.eqv p q)) := by
  unfold pEq
  split
  · rename_i a b e
    cases e
    unfold D.py at hx hy
    cases hx
    cases hy
    have : PyData.eqv (.str a) (.str b) = decide (a = b) := by
      simp only [PyData.eqv]
      by_cases z : a = b <;> simp [z]
    rw [this]
  · rename_i a b e
    cases e
    unfold D.py at hx hy
    cases hx
    cases hy
    have : PyData.eqv (.bool a) (.bool b) = decide (a = b) := by
      cases a <;> cases b <;> simp [PyData.eqv]
    rw [this]
  · unfold pEqv
    split
    · rename_i i j e
      cases e
      unfold D.py at hx hy
      cases hx
      cases hy
      rw [TA.eqv_int i j]
    · rename_i a b _ e
      cases e
      simp only [hx, hy, sx, sy, Bool.and_self, if_true]
    · rename_i h1 h2
      exact absurd rfl (h2 x y)
theorem pEq_same {neg : Bool} {n : Nat} {x : D} (h : D.sh true n x = true) (hn : n ≤ 64) : pEq neg [x, x] = some (.bl (!neg)) := by
  obtain ⟨p, e, h1, h2⟩ := sh_py n x h
  have s : SeqAt.shaped p = true := by
    unfold SeqAt.shaped
    rw [h1, decide_eq_true (by omega)]
    rfl
  rw [pEq_gen e e s s, PySem.SeqAt.eqv_refl _ h1]
  cases neg <;> rfl
theorem pEq_diff {neg : Bool} {n : Nat} {x y : D} (hx : D.sh false n x = true) (hy : D.sh false n y = true) (hn : n ≤ 64) (ne : x ≠ y) : pEq neg [x, y] = some (.bl neg) := by
  obtain ⟨p, e, h1, h2⟩ := sh_py n x hx
  obtain ⟨q, e', h1', h2'⟩ := sh_py n y hy
  have s : SeqAt.shaped p = true := by
    unfold SeqAt.shaped
    rw [h1, decide_eq_true (by omega)]
    rfl
  have s' : SeqAt.shaped q = true := by
    unfold SeqAt.shaped
    rw [h1', decide_eq_true (by omega)]
    rfl
  have z : PyData.eqv p q = false := by
    cases hz : PyData.eqv p q with
    | false => rfl
    | true => exact absurd (py_ne n x y p q hx hy e e' hz) ne
  rw [pEq_gen e e' s s', z]
  cases neg <;> rfl
theorem pEq_lnil {neg : Bool} {n : Nat} {ds : List D} (h : D.sh false n (.lst ds) = true) (hn : n ≤ 64) (ne : ds ≠ []) : pEq neg [.lst ds, .lst []] = some (.bl neg) :=
  pEq_diff h (by
    cases n with
    | zero => unfold D.sh at h; cases h
    | succ n => exact sh_lst.mpr fun d hd => by cases hd) hn fun e => ne (by cases e; rfl)
end VL
set_option maxHeartbeats 4000000
namespace VL
variable [LamT]
open PySem PySem.Spec PyProof.Rows L2
theorem sOk_app (a b : Str) : PyData.strOk (a ++ b) = (PyData.strOk a && PyData.strOk b) := by
  show (a.cps ++ b.cps).all _ = _
  rw [Array.all_append]
  rfl
theorem sOk_of (s : String) : PyData.strOk (Str.ofString s) = true := by
  show ((cpsOfBytes 0 0 s.toByteArray.data.toList).toArray).all _ = true
  rw [cpsOfBytes_string, List.all_toArray, List.all_map, List.all_eq_true]
  intro c _
  have h := c.valid
  simp only [UInt32.isValidChar, Nat.isValidChar] at h
  have ht : c.toNat = c.val.toNat := rfl
  simp only [Function.comp, ht, decide_eq_true_eq]
  omega
theorem sOk_join : ∀ (ts : List Str), (∀ t ∈ ts, PyData.strOk t = true) → PyData.strOk (Str.join ", " ts) = true
  | [], _ => by
    rw [Str.join]
    exact sOk_of ""
  | [x], h => by
    rw [Str.join]
    exact h x List.mem_cons_self
  | x :: y :: r, h => by
    show PyData.strOk (x ++ ", " ++ Str.join ", " (y :: r)) = true
    rw [sOk_app, sOk_app, h x List.mem_cons_self, sOk_join (y :: r) fun t ht => h t (List.mem_cons_of_mem _ ht), sOk_of]
    rfl
structure RpD (d : D) (w n : Nat) : Prop where
  py : ∃ p, d.py = some p ∧ TA.Fit p w n ∧ PyData.strOk p.shown = true
structure RpL (ds : List D) (w n : Nat) : Prop where
  py : ∃ ps, D.pyL ds = some ps ∧ TA.FitAll ps w n ∧ ∀ t ∈ PyData.shownAll ps, PyData.strOk t = true
theorem RpD.up {d : D} {w w' n n' : Nat} (h : RpD d w n) (hw : w ≤ w') (hn : n ≤ n') : RpD d w' n' := by
  obtain ⟨p, e, f, s⟩ := h.py
  exact ⟨p, e, f.up hw hn, s⟩
theorem RpL.up {d : List D} {w w' n n' : Nat} (h : RpL d w n) (hw : w ≤ w') (hn : n ≤ n') : RpL d w' n' := by
  obtain ⟨p, e, f, s⟩ := h.py
  exact ⟨p, e, f.up hw hn, s⟩
theorem rp_int {i : Int} {k : Nat} (k0 : 0 < k) (hk : k ≤ 300) (h : i.natAbs < 2 ^ k) : RpD (.int i) k 0 := ⟨.int i, by unfold D.py; rfl, TA.fit_int k0 hk h, by
  show PyData.strOk (Str.ofString (toString i)) = true
  exact sOk_of _⟩
theorem rp_str {s : Str} {w : Nat} (h1 : PyData.strOk s = true) (h2 : PyData.leavesShort 100 (.str s) = true) (h3 : PyData.strOk (reprText s) = true) (hw : PyData.weight (.str s) ≤ w) : RpD (.str s) w 0 := ⟨.str s, by unfold D.py; rfl, ⟨rfl, rfl, h2, h1, hw, Nat.le_refl _⟩, h3⟩
theorem rp_nil : RpL [] 0 0 := ⟨[], by unfold D.pyL; rfl, TA.fit_nil, fun t ht => by simp [PyData.shownAll] at ht⟩
theorem rp_cons {d : D} {ds : List D} {w w' n : Nat} (h : RpD d w n) (t : RpL ds w' n) : RpL (d :: ds) (w + 1 + w') n := by
  obtain ⟨p, e1, f1, s1⟩ := h.py
  obtain ⟨ps, e2, f2, s2⟩ := t.py
  refine ⟨p :: ps, by unfold D.pyL; rw [e1, e2], TA.fit_cons f1 f2, fun t ht => ?_⟩
  simp only [PyData.shownAll, List.mem_cons] at ht
  rcases ht with rfl | ht
  · exact s1
  · exact s2 t ht
theorem rp_tup {ds : List D} {w n : Nat} (h : RpL ds w n) : RpD (.tup ds) w (n + 1) := by
  obtain ⟨ps, e, f, s⟩ := h.py
  refine ⟨.tuple ps, by unfold D.py; rw [e]; rfl, TA.fit_tuple f, ?_⟩
  show PyData.strOk (("(" : Str) ++ Str.join ", " (PyData.shownAll ps) ++ (if (PyData.shownAll ps).length == 1 then ",)" else ")" : String)) = true
  rw [sOk_app, sOk_app, sOk_join _ s, sOk_of, sOk_of]
  rfl
theorem RpD.lst {ds : List D} {w n : Nat} (h : RpD (.lst ds) w n) (hw : w ≤ 160000) (hn : n ≤ 30) : ∃ s, pRepr [.lst ds] = some (.str s) ∧ PyData.strOk s = true := by
  obtain ⟨p, e, f, so⟩ := h.py
  have hd : isDisplay p = true := by
    unfold D.py at e
    obtain ⟨ps, _, rfl⟩ := Option.map_eq_some_iff.mp e
    rfl
  have sh := f.shows hd hw hn
  refine ⟨p.shown, ?_, so⟩
  simp only [pRepr, e, sl_eq, sh.disp, sh.show_, sh.nodict, Bool.not_false, Bool.and_self, decide_eq_true sh.deep, decide_eq_true sh.size, if_true]
theorem RpD.tup {ds : List D} {w n : Nat} (h : RpD (.tup ds) w n) (hw : w ≤ 160000) (hn : n ≤ 30) : ∃ s, pRepr [.tup ds] = some (.str s) ∧ PyData.strOk s = true := by
  obtain ⟨p, e, f, so⟩ := h.py
  have hd : isDisplay p = true := by
    unfold D.py at e
    obtain ⟨ps, _, rfl⟩ := Option.map_eq_some_iff.mp e
    rfl
  have sh := f.shows hd hw hn
  refine ⟨p.shown, ?_, so⟩
  simp only [pRepr, e, sl_eq, sh.disp, sh.show_, sh.nodict, Bool.not_false, Bool.and_self, decide_eq_true sh.deep, decide_eq_true sh.size, if_true]
end VL
set_option maxHeartbeats 4000000
namespace VL
variable [LamT]
open PySem PySem.Spec PyProof.Rows L2
def Wp (S : SF) (E : Env) (Q : Out → Prop) : Prop := ∃ o, S E = some o ∧ Q o
def Aft (T : SF) (Q : Out → Prop) : Out → Prop
  | .nx E => Wp T E Q
  | o => Q o
theorem Aft_nx (T : SF) (Q : Out → Prop) (E : Env) : Aft T Q (.nx E) = Wp T E Q := rfl
theorem Aft_rt (T : SF) (Q : Out → Prop) (d : D) (E : Env) : Aft T Q (.rt d E) = Q (.rt d E) := rfl
theorem wp_seq {S T : SF} {E : Env} {Q : Out → Prop} (h : Wp S E (Aft T Q)) : Wp (sSeq S T) E Q := by
  obtain ⟨o, h1, h2⟩ := h
  cases o with
  | nx E' =>
    obtain ⟨o, h3, h4⟩ := h2
    exact ⟨o, by simp only [sSeq_ap, h1, h3], h4⟩
  | rt d E' => exact ⟨_, by simp only [sSeq_ap, h1], h2⟩
  | bk E' => exact ⟨_, by simp only [sSeq_ap, h1], h2⟩
  | ct E' => exact ⟨_, by simp only [sSeq_ap, h1], h2⟩
theorem wp_if {t : TF} {S T : SF} {E E' : Env} {c : Bool} {Q : Out → Prop} (h : t E = some (c, E')) (q : if c then Wp S E' Q else Wp T E' Q) : Wp (sIf t S T) E Q := by
  cases c with
  | true =>
    obtain ⟨o, h3, h4⟩ : Wp S E' Q := by simpa using q
    exact ⟨o, by simp only [sIf_ap, h, h3], h4⟩
  | false =>
    obtain ⟨o, h3, h4⟩ : Wp T E' Q := by simpa using q
    exact ⟨o, by simp only [sIf_ap, h, h3], h4⟩
def LoopQ (I : Nat → Env → Prop) (i : Nat) (Q : Out → Prop) : Out → Prop
  | .nx E3 => I (i + 1) E3
  | .ct E3 => I (i + 1) E3
  | .bk E3 => Q (.nx E3)
  | .rt r E3 => Q (.rt r E3)
theorem lq_nx {I : Nat → Env → Prop} {i : Nat} {Q : Out → Prop} {E : Env} (h : I (i + 1) E) : LoopQ I i Q (.nx E) := h
theorem wp_for {k : Kind} {f : IF} {g : Bool → D → Env → Option Env} {b : SF} {E E1 : Env} {ds : List D} {Q : Out → Prop} (I : Nat → Env → Prop) (h1 : f E = some (ds, E1)) (h2 : I 0 (freeze E1 k.S))
    (st : ∀ i d E, ds[i]? = some d → I i E → ∃ E2, g (newAll E1 k.S) d E = some E2 ∧ Wp b E2 (LoopQ I i Q))
    (h3 : ∀ E2, I ds.length E2 → Q (.nx E2)) : Wp (sFor k f g b) E Q := by
  have key : ∀ (l : List D) (j : Nat) (E : Env), (∀ i d, l[i]? = some d → ds[j + i]? = some d) → j + l.length = ds.length → I j E → ∃ o, forL (g (newAll E1 k.S)) b l E = some o ∧ Q o := fun l => by
    induction l with
    | nil =>
      intro j E _ hl hi
      exact ⟨_, rfl, h3 E (by rw [← hl]; exact hi)⟩
    | cons d l ih =>
      intro j E hd hl hi
      obtain ⟨E2, a1, o, a2, a3⟩ := st j d E (hd 0 d rfl) hi
      have nxt : ∀ E3, I (j + 1) E3 → ∃ o, forL (g (newAll E1 k.S)) b l E3 = some o ∧ Q o := fun E3 hi3 => ih (j + 1) E3 (fun i d' h => by
        have := hd (i + 1) d' (by simpa using h)
        rw [show j + 1 + i = j + (i + 1) by omega]
        exact this) (by simp at hl; omega) hi3
      cases o with
      | nx E3 =>
        obtain ⟨o, b1, b2⟩ := nxt E3 a3
        exact ⟨o, by simp only [forL, a1, a2, b1], b2⟩
      | ct E3 =>
        obtain ⟨o, b1, b2⟩ := nxt E3 a3
        exact ⟨o, by simp only [forL, a1, a2, b1], b2⟩
      | bk E3 => exact ⟨_, by simp only [forL, a1, a2], a3⟩
      | rt r E3 => exact ⟨_, by simp only [forL, a1, a2], a3⟩
  obtain ⟨o, a, b⟩ := key ds 0 _ (fun i d h => by rw [Nat.zero_add]; exact h) (by omega) h2
  exact ⟨o, by simp only [sFor_ap, h1, a], b⟩
def CallQ (R : D → List D → Prop) (J : List Nat) : Out → Prop
  | .rt d E => ∃ ds', ioOut E J = some ds' ∧ R d ds'
  | .nx E => ∃ ds', ioOut E J = some ds' ∧ R .non ds'
  | _ => False
theorem cq_rt {R : D → List D → Prop} {J : List Nat} {d : D} {E : Env} {ds' : List D} (h : ioOut E J = some ds') (r : R d ds') : CallQ R J (.rt d E) := ⟨ds', h, r⟩
theorem cq_nx {R : D → List D → Prop} {J : List Nat} {E : Env} {ds' : List D} (h : ioOut E J = some ds') (r : R .non ds') : CallQ R J (.nx E) := ⟨ds', h, r⟩
theorem wp_call {S : SF} {N : Nat} {J : List Nat} {ds : List D} (R : D → List D → Prop) (h : Wp S (startE N J ds) (CallQ R J)) : ∃ d ds', callD S N J ds = some (d, ds') ∧ R d ds' := by
  obtain ⟨o, h1, h2⟩ := h
  cases o with
  | rt d E =>
    obtain ⟨ds', h3, h4⟩ := h2
    exact ⟨d, ds', by simp only [callD_ap, h1, h3], h4⟩
  | nx E =>
    obtain ⟨ds', h3, h4⟩ := h2
    exact ⟨.non, ds', by simp only [callD_ap, h1, h3], h4⟩
  | bk E => exact h2.elim
  | ct E => exact h2.elim
section
variable {k : Kind} {src : IF} {g : Bool → D → Env → Option Env} {t : TF} {f : EF} {vs M : List Nat} {E E1 : Env} {ds : List D}
theorem setM_nil (A B : Env) : setM A B [] = A := rfl
theorem eLc_inv (I : Nat → List D → Env → Prop) (h1 : src E = some (ds, E1)) (hl : ds.length ≤ 16777216) (h2 : I 0 [] (wipeE (freeze E1 k.S) vs))
    (st : ∀ i d acc E, ds[i]? = some d → I i acc E → ∃ E2 b E3, g (newAll E1 k.S) d E = some E2 ∧ t E2 = some (b, E3) ∧ (b = false → I (i + 1) acc (wipeE E3 vs)) ∧ (b = true → ∃ y E4, f E3 = some (y, E4) ∧ I (i + 1) (acc ++ [y]) (wipeE E4 vs))) :
    ∃ ys E2, I ds.length ys E2 ∧ eLc k src g t f vs M E = some (.lst ys, setM E1 E2 M) := by
  obtain ⟨ys, E2, a, b⟩ := lcL_inv (g := g (newAll E1 k.S)) (t := t) (f := f) (vs := vs) I h2 st
  exact ⟨ys, E2, b, eLc_eq h1 a (by rw [sizeLine_eq]; exact hl) rfl⟩
theorem eLc_acc (A : Nat → List D) (h0 : A 0 = []) (h1 : src E = some (ds, E1)) (hl : ds.length ≤ 16777216)
    (st : ∀ (i : Nat) (d : D), ds[i]? = some d → ∃ E2 b E3, g (newAll E1 k.S) d (wipeE (freeze E1 k.S) vs) = some E2 ∧ t E2 = some (b, E3) ∧ (b = false → A (i + 1) = A i ∧ wipeE E3 vs = wipeE (freeze E1 k.S) vs) ∧ (b = true → ∃ y E4, f E3 = some (y, E4) ∧ A (i + 1) = A i ++ [y] ∧ wipeE E4 vs = wipeE (freeze E1 k.S) vs)) :
    eLc k src g t f vs [] E = some (.lst (A ds.length), E1) := by
  obtain ⟨ys, E2, ⟨a, _⟩, b⟩ := eLc_inv (M := []) (k := k) (src := src) (g := g) (t := t) (f := f) (vs := vs) (fun i acc E => acc = A i ∧ E = wipeE (freeze E1 k.S) vs) h1 hl ⟨h0.symm, rfl⟩ (by
    rintro i d acc E hd ⟨rfl, rfl⟩
    obtain ⟨E2, b, E3, a1, a2, a3, a4⟩ := st i d hd
    refine ⟨E2, b, E3, a1, a2, fun z => ⟨(a3 z).1.symm, (a3 z).2⟩, fun z => ?_⟩
    obtain ⟨y, E4, c1, c2, c3⟩ := a4 z
    exact ⟨y, E4, c1, c2.symm, c3⟩)
  rw [b, a, setM_nil]
end
theorem wp_gen {S : SF} {E : Env} {Q : Out → Prop} (h : ∀ R, R = Q → ∃ o, S E = some o ∧ R o) : Wp S E Q := h Q rfl
end VL
set_option maxHeartbeats 4000000
namespace VL
variable [LamT]
open PySem PySem.Spec PyProof.Rows L2
end VL
set_option maxHeartbeats 4000000
namespace VL
open PySem PySem.Spec PyProof.Rows L2
open GxR (TabB Tabbed)
variable [LamT]
theorem law_endT {K : PySem.W.Frag} {c : Nat → Addr} {H : Hp} {a : Addr} {ns : List Int} {F : FD} {cs : List (Addr × Addr)} {Ts : List Addr} (hT : ∀ T ∈ Ts, GxR.TabG H T) (kd : TA.Kinds K cs a H) (hS : SqL K H a (ns.map V.int)) (hF : F [.scr ns] = some (.bl true, [])) : spV ⟨K, Ts, c, none⟩ [] true 1 F [.ref a] H (fun v _ => v = .bl true) fun _ _ _ => False := by
  have sa : ScrAt K H a (ns.map V.int) := by
    rcases hS with (h | ⟨o, h⟩) | h
    · rcases kd a _ h with ⟨_, _, o, xs, z⟩ | ⟨z, _⟩ <;> cases z
    · exact .inl ⟨o, h⟩
    · exact .inr h
  refine ⟨[.scr ns], fun _ => [], rfl, ⟨rfl, fun j d e => ?x, fun j hj => (by cases hj)⟩, fun T hm => ⟨hT T hm, fun _ => ?_⟩, .bl true, [], hF, fun v H' A FA' r _ _ _ _ => (rds_bl.mp r).1⟩
  case x =>
    cases j with
    | zero =>
      cases e
      exact ⟨.ref a, rfl, rds_scr.mpr ⟨a, rfl, sa, rfl⟩⟩
    | succ j => simp at e
  obtain ⟨ps, e1, e2⟩ := hT T hm
  rcases kd T _ e1 with ⟨_, _, o, xs, z⟩ | ⟨z, _⟩
  · cases z
  · cases z
    exact ⟨#[], e1, e2, fun pos cv hc => by simp [codeAmong] at hc⟩
end VL
set_option maxHeartbeats 4000000
namespace TA
open PySem PySem.Spec PyProof.Rows L2
inductive KvI : List (Key × V) → List (PyData × PyData) → Prop
  | nil : KvI [] []
  | cons {i j : Int} {kvs : List (Key × V)} {ds : List (PyData × PyData)} : KvI kvs ds → KvI ((Sum.inl i, .int j) :: kvs) ((.int i, .int j) :: ds)
mutual
inductive Dx (K : PySem.W.Frag) (H : Hp) : V → PyData → Prop
  | plain {v : V} {d : PyData} : Dp K H v d → d.hasDict = false → Dx K H v d
  | lst {a : Addr} {xs : List V} {ds : List PyData} : SqL K H a xs → DxAll K H xs ds → Dx K H (.ref a) (.list ds)
  | tup {a : Addr} {xs : List V} {ds : List PyData} : SqT K H a xs → DxAll K H xs ds → Dx K H (.ref a) (.tuple ds)
  | dct {a : Addr} {kvs : List (Key × V)} {ds : List (PyData × PyData)} : H a = some (.dK kvs) → KvI kvs ds → Dx K H (.ref a) (.dict ds)
inductive DxAll (K : PySem.W.Frag) (H : Hp) : List V → List PyData → Prop
  | nil : DxAll K H [] []
  | cons {v : V} {vs : List V} {d : PyData} {ds : List PyData} : Dx K H v d → DxAll K H vs ds → DxAll K H (v :: vs) (d :: ds)
end
section
variable {X : Cx} {pins : List (Addr × Obj)} {σ : L2.St} {H : Hp} {s : Shared}
structure Shown1 (X : Cx) (s : Shared) (u : Value) (d : PyData) : Prop where
  reads : ∃ as, Reads s.heap u d as
  repr : ∃ bs, ReadAtMost s.heap d.depth bs ∧ ReprK X.prog X.w bs s.heap d.depth u d.shown
structure ShownN (X : Cx) (s : Shared) (us : List Value) (ds : List PyData) : Prop where
  reads : ∃ as, ReadsAll s.heap us ds as
  repr : ∃ bs, ReadAtMost s.heap (PyData.depthAll ds) bs ∧ ReprAllK X.prog X.w bs s.heap (PyData.depthAll ds) us (PyData.shownAll ds)
theorem kv_reads {h : Heap} {P : Program} {w : World} : ∀ {kvs : List (Key × V)} {ds : List (PyData × PyData)} {vs : List (Key × Value)} {es : List DictEntry}, KvI kvs ds → KV kvs vs → Pairs (mixKind P w) es vs →
    ReadsAll h (es.map (·.key)) (ds.map (·.1)) [] ∧ ReadsAll h (es.map (·.val)) (ds.map (·.2)) []
  | [], _, _, _, .nil, kv, pr => by
    cases kv
    cases pr
    exact ⟨.nil, .nil⟩
  | (Sum.inl i0, .int j0) :: _, _, _, e0 :: _, .cons k, kv, pr => by
    cases kv with
    | cons r kv =>
      cases pr with
      | cons h1 h2 pr =>
        obtain ⟨i1, i2⟩ := kv_reads (h := h) k kv pr
        obtain ⟨e1, r2⟩ := r
        rw [← e1] at h1
        have h1 : keyIs (Sum.inl i0) e0.key = true := h1
        rcases keyIs_shape h1 with ⟨i, t, e, e'⟩ | ⟨x, t, e, _⟩
        · cases e
          obtain ⟨t2, e2⟩ := r2
          rw [e2] at h2
          rw [List.map_cons, List.map_cons, List.map_cons, List.map_cons, e', h2]
          exact ⟨.cons (.int _ _) i1, .cons (.int _ _) i2⟩
        · cases e
  | (Sum.inl _, .int _) :: _, _, _, [], .cons k, kv, pr => by
    cases kv
    cases pr
theorem dict_at (I : Inv X pins σ H s) {a : Addr} {kvs : List (Key × V)} {ds : List (PyData × PyData)} (h : H a = some (.dK kvs)) (k : KvI kvs ds) : Reads s.heap (.ref a) (.dict ds) [a] ∧ (a == sysModules) = false := by
  obtain ⟨_, hs, vs, kv, o, es, ep, e1, e2, e3, _, e5, _⟩ := (show ObjOk X.prog X.w H s.heap a (.dK kvs) from I.hok a _ h)
  obtain ⟨r1, r2⟩ := kv_reads (h := s.heap) k kv e5
  exact ⟨.dict e1 e2.1 e3 r1 r2, hs⟩
mutual
theorem dx_shown (I : Inv X pins σ H s) : ∀ {v : V} {d : PyData}, Dx X.K H v d → ∀ {u : Value}, RelV v u → d.showable = true → d.shown.length ≤ sizeLine → Shown1 X s u d
  | _, _, .plain h hn, u, r, hs, hz => by
    obtain ⟨as, hr⟩ := Dp.reads I _ _ _ h r
    exact ⟨⟨as, hr⟩, ReprK.of_reads hr hs (PyData.noDict_hsm hn) hz⟩
  | _, _, .lst (a := a) (ds := ds) hq ha, u, r, hs, hz => by
    cases r
    obtain ⟨its, rv, ⟨o, n, ho, hc, _, hd⟩, _⟩ := I.list hq
    have hz' : (listText (PyData.shownAll ds)).length ≤ sizeLine := by simpa only [PyData.shown] using hz
    obtain ⟨⟨as, hr⟩, bs, hb, hk⟩ := dxAll_shown I ha rv (by simpa [PyData.showable] using hs) fun t ht => Nat.le_trans (listText_mem_le ht) hz'
    have rd : Reads s.heap (.ref a) (.list ds) _ := .list ho hc hd hr
    have hna : a ∉ bs := not_mem_of_deeper rd (by simp only [PyData.depth]; omega) hb
    refine ⟨⟨_, rd⟩, a :: bs, ReadAtMost.cons rd (by simp only [PyData.depth]; omega) hb, ?_⟩
    simp only [PyData.depth, PyData.shown]
    cases its with
    | nil =>
      cases hr
      simp only [PyData.shownAll, listText_nil]
      exact ReprK.listEmpty ho hc hd
    | cons x l => exact ReprK.list ho hc hd hna (by simpa using hk.length_eq) (fun i y e => hk.item i y (by simpa using e))
  | _, _, .tup (a := a) (ds := ds) hq ha, u, r, hs, hz => by
    cases r
    obtain ⟨its, rv, ⟨o, ho, hc, n, hd⟩, _⟩ := I.tuple hq
    have hz' : (tupleText (PyData.shownAll ds)).length ≤ sizeLine := by simpa only [PyData.shown] using hz
    obtain ⟨⟨as, hr⟩, bs, hb, hk⟩ := dxAll_shown I ha rv (by simpa [PyData.showable] using hs) fun t ht => Nat.le_trans (tupleText_mem_le ht) hz'
    have rd : Reads s.heap (.ref a) (.tuple ds) _ := .tuple ho hc hd hr
    have hna : a ∉ bs := not_mem_of_deeper rd (by simp only [PyData.depth]; omega) hb
    refine ⟨⟨_, rd⟩, a :: bs, ReadAtMost.cons rd (by simp only [PyData.depth]; omega) hb, ?_⟩
    simp only [PyData.depth, PyData.shown]
    exact ReprK.tuple ho hc hd hna hk
  | _, _, .dct (a := a) hq hk, u, r, hs, hz => by
    cases r
    obtain ⟨rd, hsys⟩ := dict_at I hq hk
    exact ⟨⟨_, rd⟩, ReprK.of_reads rd hs (fun _ hm => by rw [List.mem_singleton.mp hm] at hsys; simp at hsys) hz⟩
theorem dxAll_shown (I : Inv X pins σ H s) : ∀ {vs : List V} {ds : List PyData}, DxAll X.K H vs ds → ∀ {us : List Value}, Vals vs us → PyData.showableAll ds = true → (∀ t ∈ PyData.shownAll ds, t.length ≤ sizeLine) → ShownN X s us ds
  | _, _, .nil, us, r, _, _ => by
    cases r
    exact ⟨⟨_, .nil⟩, [], (fun _ h => nomatch h), by simp only [PyData.shownAll]; exact .nil⟩
  | _, _, .cons (d := d) (ds := ds) h1 h2, us, r, hs, hz => by
    cases r with
    | cons r1 r2 =>
      have hs' : d.showable = true ∧ PyData.showableAll ds = true := by simpa [PyData.showableAll] using hs
      obtain ⟨⟨a1, q1⟩, b1, hb1, k1⟩ := dx_shown I h1 r1 hs'.1 (hz _ (by simp only [PyData.shownAll]; exact List.mem_cons_self ..))
      obtain ⟨⟨a2, q2⟩, b2, hb2, k2⟩ := dxAll_shown I h2 r2 hs'.2 fun t ht => hz t (by simp only [PyData.shownAll]; exact List.mem_cons_of_mem _ ht)
      refine ⟨⟨_, .cons q1 q2⟩, b1 ++ b2, fun b hm => ?_, ?_⟩
      · simp only [PyData.depthAll]
        rcases List.mem_append.mp hm with hm | hm
        · obtain ⟨d', as', r', hd'⟩ := hb1 b hm
          exact ⟨d', as', r', Nat.le_trans hd' (Nat.le_max_left _ _)⟩
        · obtain ⟨d', as', r', hd'⟩ := hb2 b hm
          exact ⟨d', as', r', Nat.le_trans hd' (Nat.le_max_right _ _)⟩
      · simp only [PyData.depthAll, PyData.shownAll]
        exact .cons ((k1.more fun b hb => List.mem_append_left _ hb).level_le (Nat.le_max_left _ _)) (k2.more_le (fun b hb => List.mem_append_right _ hb) (Nat.le_max_right _ _))
end
end
structure ShowsX (d : PyData) : Prop where
  show_ : d.showable = true
  deep : d.depth ≤ 30
  size : d.shown.length ≤ sizeLine
section
variable {X : Cx}
abbrev rReprX (K : PySem.W.Frag) : List V → Hp → VK → Prop := fun xs H Q => ∃ a ds, xs = [.ref a] ∧ (∃ ys, (SqL K H a ys ∧ DxAll K H ys ds)) ∧ ShowsX (.list ds) ∧ Q (.str (PyData.list ds).shown) H
theorem call_reprX (hg : X.A.guards = some []) (hu : X.A.units + 64 < cLine) : CallR X (.builtin "repr") (rReprX X.K) := by
  intro pins s σ H xs us Q I r h
  obtain ⟨a, ds, rfl, ⟨ys, hq, ha⟩, S, q⟩ := h
  obtain ⟨u, rfl, ru⟩ := vals1 r
  cases ru
  obtain ⟨its, rv, ⟨o, n, ho, hc, _, hd⟩, _⟩ := I.list hq
  have hdp := S.deep
  have hdp' : PyData.depthAll ds + 1 ≤ 30 := by simpa only [PyData.depth] using hdp
  have hz' : (listText (PyData.shownAll ds)).length ≤ sizeLine := by simpa only [PyData.shown] using S.size
  obtain ⟨⟨as, hr⟩, bs, hb, hk⟩ := dxAll_shown I ha rv (by simpa [PyData.showable] using S.show_) fun t ht => Nat.le_trans (listText_mem_le ht) hz'
  have rd : Reads s.heap (.ref a) (.list ds) _ := .list ho hc hd hr
  have hna : a ∉ bs := not_mem_of_deeper rd (by simp only [PyData.depth]; omega) hb
  have fin : ∀ h' t tk, (∀ b o, s.heap.get? b = some o → h'.get? b = some o) → EP X pins σ Q (.str (listText (PyData.shownAll ds)) t) { s with heap := h', toks := tk } := fun h' t tk hk =>
    ⟨.str _, H, I.kept hk, ⟨_, rfl⟩, by simpa only [PyData.shown] using q⟩
  refine call_repr_slot (by omega) ⟨o, ho, hc⟩ F.slot_list_repr.toG ?_
  cases its with
  | nil =>
    cases hr
    simp only [PyData.shownAll, listText_nil] at fin
    exact call_list_repr_empty ⟨o, ho, hc⟩ ho hd ⟨_, _, rfl, fin s.heap _ _ fun _ _ e => e⟩
  | cons x l =>
    exact call_list_reprK ho hc hd hna (by simpa using hk.length_eq) (fun i y e => hk.item i y (by simpa using e)) hg (fun b _ => Clear.nil b) (by show X.A.units + 1 + _ < cLine; omega) (fun _ _ e => e) (fun h' t tk hk' => ⟨_, _, rfl, fin h' t tk hk'⟩) hz'
abbrev rReprI (_K : PySem.W.Frag) : List V → Hp → VK → Prop := fun xs H Q => ∃ a kvs ds, xs = [.ref a] ∧ H a = some (.dK kvs) ∧ KvI kvs ds ∧ ShowsX (.dict ds) ∧ Q (.str (PyData.dict ds).shown) H
theorem call_reprI (hg : X.A.guards = some []) (hu : X.A.units + 64 < cLine) : CallR X (.builtin "repr") (rReprI X.K) := by
  intro pins s σ H xs us Q I r h
  obtain ⟨a, kvs, ds, rfl, hq, hk, S, q⟩ := h
  obtain ⟨u, rfl, ru⟩ := vals1 r
  cases ru
  obtain ⟨rd, hsys⟩ := dict_at I hq hk
  refine repr_of_reads' rd S.show_ (fun _ hm => by rw [List.mem_singleton.mp hm] at hsys; simp at hsys) hg (by have := S.deep; show X.A.units + _ < cLine; omega) (fun _ _ e => e) (fun h' t tk hk' => ?_) S.size
  exact ⟨.str _, H, I.kept hk', ⟨_, rfl⟩, q⟩
end
end TA
set_option maxHeartbeats 4000000
namespace VL
noncomputable section
open PySem PySem.Spec PyProof.Rows L2
variable [LamT]
def pyKv : List Key → List D → Option (List (PyData × PyData))
  | [], [] => some []
  | .inl i :: ks, .int j :: ds => (pyKv ks ds).map fun l => (.int i, .int j) :: l
  | _, _ => none
mutual
def D.pyX : D → Option PyData
  | .non => some .none
  | .bl b => some (.bool b)
  | .int i => some (.int i)
  | .str s => some (.str s)
  | .tup ds => (D.pyXL ds).map .tuple
  | .lst ds => (D.pyXL ds).map .list
  | .dct ks ds => (pyKv ks ds).map .dict
  | _ => none
def D.pyXL : List D → Option (List PyData)
  | [] => some []
  | d :: ds => match d.pyX, D.pyXL ds with
    | some p, some ps => some (p :: ps)
    | _, _ => none
end
section
variable {G : Gb} {H : Hp}
theorem kv_of : ∀ (us : List (Key × V)) (ks : List Key) (ds : List D) (l : List (PyData × PyData)) (A : List Addr), us.map (·.1) = ks → pyKv ks ds = some l → RdsL G H ds (us.map (·.2)) A → TA.KvI us l
  | [], _, ds, l, A, h, e, r => by
    subst h
    obtain rfl : ds = [] := by
      cases ds with
      | nil => rfl
      | cons d ds => unfold RdsL at r; obtain ⟨x, _, _, _, h1, _⟩ := r; cases h1
    unfold pyKv at e
    cases e
    exact .nil
  | (k, v) :: us, _, ds, l, A, h, e, r => by
    subst h
    cases ds with
    | nil => unfold pyKv at e; cases k <;> cases e
    | cons d ds =>
      obtain ⟨x, r', A1, B1, e2, rfl, h1, h2⟩ := rdsL_cons.mp r
      cases e2
      rw [List.map_cons] at e
      cases k with
      | inr s => unfold pyKv at e; cases e
      | inl i =>
        cases d with
        | int j =>
          unfold pyKv at e
          obtain ⟨l', e3, rfl⟩ := Option.map_eq_some_iff.mp e
          obtain rfl : v = .int j := (rds_int.mp h1).1
          exact .cons (kv_of us _ ds l' B1 rfl e3 h2)
        | _ => unfold pyKv at e; cases e
mutual
theorem Rds.dx : ∀ (d : D) (v : V) (F : List Addr) (p : PyData), d.pyX = some p → Rds G H d v F → TA.Dx G.K H v p
  | .non, v, F, p, e, h => by
    unfold D.pyX at e
    cases e
    rw [(rds_non.mp h).1]
    exact .plain .non rfl
  | .bl b, v, F, p, e, h => by
    unfold D.pyX at e
    cases e
    rw [(rds_bl.mp h).1]
    exact .plain (.bl b) rfl
  | .int i, v, F, p, e, h => by
    unfold D.pyX at e
    cases e
    rw [(rds_int.mp h).1]
    exact .plain (.int i) rfl
  | .str s, v, F, p, e, h => by
    unfold D.pyX at e
    cases e
    rw [(rds_str.mp h).1]
    exact .plain (.str s) rfl
  | .tup ds, v, F, p, e, h => by
    unfold D.pyX at e
    obtain ⟨ps, e1, rfl⟩ := Option.map_eq_some_iff.mp e
    obtain ⟨a, xs, rfl, h1, h2⟩ := rds_tup.mp h
    exact .tup h1 (RdsL.dx ds xs F ps e1 h2)
  | .lst ds, v, F, p, e, h => by
    unfold D.pyX at e
    obtain ⟨ps, e1, rfl⟩ := Option.map_eq_some_iff.mp e
    obtain ⟨a, xs, A, rfl, h1, h2, rfl⟩ := rds_lst.mp h
    exact .lst (SqL.of h1) (RdsL.dx ds xs A ps e1 h2)
  | .dct ks ds, v, F, p, e, h => by
    unfold D.pyX at e
    obtain ⟨l, e1, rfl⟩ := Option.map_eq_some_iff.mp e
    obtain ⟨a, us, A, rfl, h1, ⟨h2, _⟩, h3, _⟩ := rds_dct.mp h
    exact .dct h1 (kv_of us ks ds l A h2 e1 h3)
  | .obj _ _ _, _, _, _, e, _ => by unfold D.pyX at e; cases e
  | .scr _, _, _, _, e, _ => by unfold D.pyX at e; cases e
  | .any, _, _, _, e, _ => by unfold D.pyX at e; cases e
  | .exn _ _ _, _, _, _, e, _ => by unfold D.pyX at e; cases e
theorem RdsL.dx : ∀ (ds : List D) (vs : List V) (F : List Addr) (ps : List PyData), D.pyXL ds = some ps → RdsL G H ds vs F → TA.DxAll G.K H vs ps
  | [], vs, F, ps, e, h => by
    unfold D.pyXL at e
    cases e
    obtain ⟨rfl, _⟩ := rdsL_nil.mp h
    exact .nil
  | d :: ds, vs, F, ps, e, h => by
    unfold D.pyXL at e
    obtain ⟨x, r, A, B, rfl, rfl, h1, h2⟩ := rdsL_cons.mp h
    split at e
    · rename_i p qs e1 e2
      cases e
      exact .cons (Rds.dx d x A p e1 h1) (RdsL.dx ds r B qs e2 h2)
    · cases e
end
end
def pReprX : List D → Option D
  | [.lst ds] => match D.pyXL ds with
    | some ps => if sl ((PyData.list ps).showable && decide ((PyData.list ps).depth ≤ 30) && decide ((PyData.list ps).shown.length ≤ sizeLine)) then some (.str (PyData.list ps).shown) else none
    | none => none
  | [.dct ks ds] => match pyKv ks ds with
    | some ps => if sl ((PyData.dict ps).showable && decide ((PyData.dict ps).depth ≤ 30) && decide ((PyData.dict ps).shown.length ≤ sizeLine)) then some (.str (PyData.dict ps).shown) else none
    | none => none
  | [.non] => some (.str "None")
  | [.int i] => if sl (decide (i.natAbs.log2 < 1920)) then some (.str (toString i)) else none
  | [.str s] => if sl (decide ((reprText s).length ≤ sizeLine)) then some (.str (reprText s)) else none
  | ds => pRepr ds
abbrev rReprA : List V → Hp → VK → Prop := fun xs H Q => (xs = [.non] ∧ Q (.str "None") H) ∨ (∃ i, xs = [.int i] ∧ i.natAbs.log2 < 1920 ∧ Q (.str (toString i)) H) ∨ ∃ s, xs = [.str s] ∧ (reprText s).length ≤ sizeLine ∧ Q (.str (reprText s)) H
theorem call_reprA {X : Cx} : CallR X (.builtin "repr") rReprA := by
  intro pins s σ H xs us Q I r h
  rcases h with ⟨rfl, q⟩ | ⟨i, rfl, hz, q⟩ | ⟨x, rfl, hz, q⟩
  · obtain ⟨u, rfl, ru⟩ := L2.vals1 r
    cases ru
    exact PySem.P.repr_of_none ⟨.str _, H, I.tok _, ⟨_, rfl⟩, q⟩
  · obtain ⟨u, rfl, ru⟩ := L2.vals1 r
    obtain ⟨t, rfl⟩ := ru
    exact PySem.P.repr_of_int hz ⟨.str _, H, I.tok _, ⟨_, rfl⟩, q⟩
  · obtain ⟨u, rfl, ru⟩ := L2.vals1 r
    obtain ⟨t, rfl⟩ := ru
    exact PySem.P.repr_of_str (hsz := hz) ⟨.str _, H, I.tok _, ⟨_, rfl⟩, q⟩
section
variable {G : Gb} {X : Cx}
theorem call_reprXD (hg : X.A.guards = some []) (hu : X.A.units + 64 < cLine) : CallR X (.builtin "repr") (fun xs H Q => TA.rReprX X.K xs H Q ∨ TA.rReprI X.K xs H Q ∨ rReprA xs H Q ∨ ∃ x d, xs = [x] ∧ Dp X.K H x d ∧ TA.Shows d ∧ Q (.str d.shown) H) := fun pins s σ H xs us Q I r h =>
  h.elim (TA.call_reprX hg hu pins s σ H xs us Q I r) fun h => h.elim (TA.call_reprI hg hu pins s σ H xs us Q I r) fun h => h.elim (call_reprA pins s σ H xs us Q I r) (TA.call_reprD hg hu pins s σ H xs us Q I r)
theorem prim_reprX (hK : X.K = G.K) : PrimF G (fun xs H Q => TA.rReprX X.K xs H Q ∨ TA.rReprI X.K xs H Q ∨ rReprA xs H Q ∨ ∃ x d, xs = [x] ∧ Dp X.K H x d ∧ TA.Shows d ∧ Q (.str d.shown) H) pReprX := fun H vs ds F Q d tb r e q => by
  unfold pReprX at e
  split at e
  · rename_i es
    split at e
    · rename_i ps e1
      split at e
      · rename_i hc
        cases e
        rw [sl_eq] at hc
        simp only [Bool.and_eq_true, decide_eq_true_eq] at hc
        obtain ⟨⟨c1, c2⟩, c3⟩ := hc
        obtain ⟨x, rfl, h1⟩ := rdsL1 r
        obtain ⟨a, xs, A, rfl, h2, h3, rfl⟩ := rds_lst.mp h1
        rw [hK]
        exact .inl ⟨a, ps, rfl, ⟨xs, SqL.of h2, RdsL.dx es xs A ps e1 h3⟩, ⟨c1, c2, c3⟩, q_atom (hStr _) q⟩
      · cases e
    · cases e
  · rename_i ks es
    split at e
    · rename_i ps e1
      split at e
      · rename_i hc
        cases e
        rw [sl_eq] at hc
        simp only [Bool.and_eq_true, decide_eq_true_eq] at hc
        obtain ⟨⟨c1, c2⟩, c3⟩ := hc
        obtain ⟨x, rfl, h1⟩ := rdsL1 r
        obtain ⟨a, us, A, rfl, h2, ⟨h3, _⟩, h4, _⟩ := rds_dct.mp h1
        exact .inr (.inl ⟨a, us, ps, rfl, h2, kv_of us ks es ps A h3 e1 h4, ⟨c1, c2, c3⟩, q_atom (hStr _) q⟩)
      · cases e
    · cases e
  · cases e
    obtain ⟨x, rfl, h1⟩ := rdsL1 r
    obtain ⟨rfl, _⟩ := rds_non.mp h1
    exact .inr (.inr (.inl (.inl ⟨rfl, q_atom (hStr _) q⟩)))
  · rename_i i
    split at e
    · rename_i hc
      cases e
      rw [sl_eq, decide_eq_true_eq] at hc
      obtain ⟨x, rfl, h1⟩ := rdsL1 r
      obtain ⟨rfl, _⟩ := rds_int.mp h1
      exact .inr (.inr (.inl (.inr (.inl ⟨i, rfl, hc, q_atom (hStr _) q⟩))))
    · cases e
  · rename_i i
    split at e
    · rename_i hc
      cases e
      rw [sl_eq, decide_eq_true_eq] at hc
      obtain ⟨x, rfl, h1⟩ := rdsL1 r
      obtain ⟨rfl, _⟩ := rds_str.mp h1
      exact .inr (.inr (.inl (.inr (.inr ⟨i, rfl, hc, q_atom (hStr _) q⟩))))
    · cases e
  · exact .inr (.inr (.inr (prim_repr hK H vs _ F Q d tb r e q)))
end
end
end VL
set_option maxHeartbeats 4000000
namespace VL
open PySem PySem.Spec PyProof.Rows L2
variable [LamT]
end VL
set_option maxHeartbeats 4000000
namespace TA
open PySem PySem.Spec PyProof.Rows L2
abbrev stSup (e : Expr) (es : List Expr) (p0 p1 p2 p3 p4 : Pos) : Stmt := .Expr (.Call (.Attribute (.Call (.Name "super" p0) [] [] p1) "__init__" p2) (e :: es) [] p3) p4
structure SupC (P : Program) (K : PySem.W.Frag) (mg : Str → Option Value) (C cc cd : Addr) : Prop where
  oex : OexC K C
  cell : ∃ cl cld csl, K.lookup cc = some ⟨cl, cld, .cell (some (.ref C)), csl⟩
  clsI : ∃ cdD, PySem.W.clsIn K C = some cdD
  sub : PySem.W.mroIn K C (.ref C) = some true
  sup : PySem.W.ks_superIn K C C "__init__" = some (some (.builtin "ValueError.__init__"))
  val : PySem.W.subIn K (.ref C) (.type "ValueError") = some true
  opq : PySem.W.nsIn K cStatics "thirdparty.any" = some none
  code : ∃ ccl cdd vs ccs file tf, K.lookup cd = some ⟨ccl, cdd, .fields vs, ccs⟩ ∧ vs[2]? = some (.str file tf) ∧ ((P.main.file : Str) == file) = true
  top : (P.main.scope.names.lookup ("super" : Str)).isSome = false
  mg : mg "super" = none
structure SupScope (N ps : List Str) (sc : Scope) (a0 : Str) : Prop where
  kind : sc.kind = .function
  co : sc.isCoroutine = false
  gen : sc.isGenerator = false
  nd : N.Nodup
  pre : N.take ps.length = ps
  par : ∀ x ∈ ps, sc.names.lookup x = some .local
  nocell : ∀ y ∈ sc.names, y.2 ≠ .cell
  free : ∀ y ∈ sc.names, y.2 = .free → y.1 = "__class__"
  ks : sc.names.lookup ("super" : Str) = some .globalImplicit
  kc : sc.names.lookup ("__class__" : Str) = some .free
  first : ps.head? = some a0
def cxS (P : Program) (w : World) (K : PySem.W.Frag) (mg : Str → Option Value) (base : Heap) (N : List Str) (qual : Str) (scope : Scope) (f cd cc : Addr) (A : Around) (outer : List Env) (s : Shared) (H : Hp) (E : XK) : Cx where
  prog := P
  w := w
  K := K
  mg := mg
  base := base
  A := A.deeper (PySem.W.ksEnv qual scope s.heap.objs.size f (.ref cd) cc)
  N := N
  s_0 := s
  H_0 := H
  env := PySem.W.ksEnv qual scope s.heap.objs.size f (.ref cd) cc
  outer := outer
  stack := PySem.W.ksEnv qual scope s.heap.objs.size f (.ref cd) cc :: outer
  ex := []
  calm := true
  fn := fun x => !(x == ("__class__" : Str))
  pn := []
  xe := fun _ _ => False
section
variable {X : Cx} {pins : List (Addr × Obj)} {σ : L2.St} {H : Hp} {s : Shared}
theorem inv_pinNew {u : Addr} {o : Obj} {h' : Heap} {t' : Nat} (I : Inv X [] σ H s) (k : ∀ b ob, s.heap.get? b = some ob → h'.get? b = some ob) (hu : s.heap.objs.size ≤ u) (e : h'.get? u = some o) (nc : ∀ v, o.data ≠ .cell v) :
    Inv X [(u, o)] σ H { s with heap := h', toks := t' } := by
  have J : Inv X [] σ H { s with heap := h', toks := t' } := I.kept k
  refine ⟨J.ok, J.os, J.bare, J.base, J.loc, J.cell, J.free, J.freeC, fun p hp => ?_, J.hok, J.len⟩
  rcases List.mem_append.mp hp with z | z
  · exact J.pin p (List.mem_append_left _ z)
  · rw [List.mem_singleton.mp z]
    exact ⟨e, I.hok.fresh hu, Nat.ne_of_gt (Nat.lt_of_lt_of_le I.lt hu), I.nofs hu, nc⟩
theorem inv_unpin (I : Inv X pins σ H s) : Inv X [] σ H s :=
  ⟨I.ok, I.os, I.bare, I.base, I.loc, I.cell, I.free, I.freeC, fun p hp => I.pin p (List.mem_append_left _ (by simpa using hp)), I.hok, I.len⟩
end
section
variable {P : Program} {w : World} {K : PySem.W.Frag} {mg : Str → Option Value} {b0 : Heap}
theorem call_mw {A : Around} {E : Value → Shared → Prop} {X : Cx} {pins : List (Addr × Obj)} {σ : L2.St} {H : Hp} {s : Shared} {u a C : Addr} {us : List Value} {Q : Value → Shared → Prop} (T : OexC X.K C) (I : Inv X pins σ H s) (e : H a = some (exo a C none))
    (hu : s.heap.get? u = some (PySem.W.kxs_mw "ValueError.__init__" a)) (hl : us.length ≤ sizeLine) (h : ∀ s', Inv X pins σ H s' → Q .none s') : wpAny (model X.prog X.w) A (call (.ref u) us) Q E s := by
  obtain ⟨nm, q, N, bs, bm, sn, sub, ab, col, dd, k0, k1, k2, k3, k5, hC, hbm⟩ := T.cls
  obtain ⟨t1, ho⟩ := exo_at I.hok e
  obtain ⟨hp, g, d, t, os⟩ := s
  refine wpAny_call (codeAny_of_tree ?_)
  show wpAny _ A.in1 (callAny (.ref u) ⟨us, []⟩) _ _ _
  simp only [callAny]
  refine wpAny_bind (wpAny_load hu ?_)
  simp only [PySem.W.kxs_mw, show (Value.type "method-wrapper" == Value.type "method" || Value.type "method-wrapper" == Value.type "builtin_function_or_method" || Value.type "method-wrapper" == Value.type "method-wrapper") = true by decide, if_true]
  refine PySem.W.KFB.if_so (by decide) ?_
  refine wpAny_bind (ESX.check_bound F.excBase_ValueError (I.kIn _ _ hC) ho rfl ?_)
  refine wpAny_bind (wpAny_pure (wpAny_pure ?_))
  refine ⟨Code.quiet_builtin _ (by decide +kernel), codeAny_builtin F.excBase_ValueError.initEntry ?_⟩
  rw [Around.under_plainId F.excBase_ValueError.init.plain _]
  have fin : ∀ h' t2, (∀ b o, b ≠ a → hp.get? b = some o → h'.get? b = some o) → h'.get? a = some (PySem.HandSPX.excO C t2) → Q .none ⟨h', g, d, t, os⟩ := fun h' t2 k hx => by
    have J := I.write (t' := t) (x := a) (e := a) (o := exo a C none) (by rw [e]; exact True.intro) (.inl rfl) k ⟨_, hx⟩ (exo_ok hx)
    have eu : upd H a (exo a C none) = H := by
      funext b
      by_cases hb : b = a
      · rw [hb, upd_same, e]
      · rw [upd_ne hb]
    rw [eu] at J
    exact h _ J
  wp_walk
  refine fin _ hp.objs.size (fun b o hb ho => ?_) ?_
  · rw [Heap.get?_update_other _ _ (Ne.symm hb)]
    exact Heap.get?_push_of_some _ ho
  · rw [Heap.get?_update_self _ (Heap.get?_push_of_some _ ho) rfl]
    rfl
end
end TA
set_option maxHeartbeats 4000000
namespace TA
open PySem PySem.Spec PyProof.Rows L2
section
variable {P : Program} {w : World} {K : PySem.W.Frag} {mg : Str → Option Value} {b0 : Heap}
theorem sup_stmt {N ps : List Str} {qu : Str} {sc : Scope} {f cd cc C : Addr} {A : Around} {outer : List Env} {s0 s : Shared} {H0 H : Hp} {E : XK} {σ : L2.St} {a0 : Str} {ar : Arg} {a : Addr} {e : Expr} {es : List Expr} {p0 p1 p2 p3 p4 : Pos} {body : List Stmt}
    {oc : Value} {od : Option Addr} {sl : Array (Option Value)} {fd : FuncData} {ta : TA} {R : Hp → Prop}
    (T : SupC P K mg C cc cd) (S : SupScope N ps sc a0) (lk : K.lookup f = some ⟨oc, od, .func fd, sl⟩) (hp : (fd.params.posonlyargs ++ fd.params.args).head? = some ar) (har : ar.arg = a0)
    (I : Inv (cxS P w K mg b0 N qu sc f cd cc A outer s0 H0 E) [] σ H s) (ea : H a = some (exo a C none)) (h0 : σ[0]? = some (some (.ref a)))
    (ha : PA (cxS P w K mg b0 N qu sc f cd cc A outer s0 H0 E) (e :: es) ta) (h : ta σ H fun us H1 => us.length ≤ 1000 ∧ H1 a = some (exo a C none) ∧ R H1)
    (he : starEach (e :: es) (PySem.W.ksEnv qu sc s0.heap.objs.size f (.ref cd) cc) = (false, eval e (PySem.W.ksEnv qu sc s0.heap.objs.size f (.ref cd) cc)) :: starEach es (PySem.W.ksEnv qu sc s0.heap.objs.size f (.ref cd) cc))
    (hpl : (backTo p3 (starEach es (PySem.W.ksEnv qu sc s0.heap.objs.size f (.ref cd) cc))).any (·.1) = false)
    (hin : interactive (PySem.W.ksEnv qu sc s0.heap.objs.size f (.ref cd) cc) = false) {pl : Sem Bool}
    (hev : eval (.Call (.Attribute (.Call (.Name "super" p0) [] [] p1) "__init__" p2) (e :: es) [] p3) (PySem.W.ksEnv qu sc s0.heap.objs.size f (.ref cd) cc) = (do
      let ov ← attributeBase (.Call (.Name "super" p0) [] [] p1) "__init__" (PySem.W.ksEnv qu sc s0.heap.objs.size f (.ref cd) cc) (eval (.Call (.Name "super" p0) [] [] p1) (PySem.W.ksEnv qu sc s0.heap.objs.size f (.ref cd) cc))
      standAt p2.atName
      let (g, first) ← holding [ov] (getMethod ov "__init__" pl)
      callWith p3 g first (backTo p3 (starEach (e :: es) (PySem.W.ksEnv qu sc s0.heap.objs.size f (.ref cd) cc))) []))
    (hsw : swapsWith (.Call (.Attribute (.Call (.Name "super" p0) [] [] p1) "__init__" p2) (e :: es) [] p3) none p4.line (PySem.W.ksEnv qu sc s0.heap.objs.size f (.ref cd) cc) = pure false) :
    _root_.PySem.wpAt (model P w) (A.deeper (PySem.W.ksEnv qu sc s0.heap.objs.size f (.ref cd) cc)) (.func body (PySem.W.ksEnv qu sc s0.heap.objs.size f (.ref cd) cc)) (exec (stSup e es p0 p1 p2 p3 p4) (PySem.W.ksEnv qu sc s0.heap.objs.size f (.ref cd) cc))
      (fun fl s' => fl = .next ∧ ∃ H1, Inv (cxS P w K mg b0 N qu sc f cd cc A outer s0 H0 E) [] σ H1 s' ∧ R H1) (fun _ _ => False) s := by
  obtain ⟨cl, cld, csl, hcell⟩ := T.cell
  obtain ⟨cdD, hD⟩ := T.clsI
  obtain ⟨ccl, cdd, vs, ccs, file, tf, hco, hvs, hfile⟩ := T.code
  obtain ⟨mb, hb, hbb⟩ := I.mod.blt
  have X : K.In s.heap := I.kIn
  have N0 : N[0]? = some a0 := by
    have z := S.first
    rw [← S.pre] at z
    cases hN : N with
    | nil => rw [hN] at z; simp at z
    | cons x xs =>
      rw [hN] at z
      cases hl : ps.length with
      | zero => rw [hl] at z; simp at z
      | succ j => rw [hl] at z; simpa using z
  have ka : sc.names.lookup a0 = some .local := S.par a0 (by
    have z := S.first
    cases hps : ps with
    | nil => rw [hps] at z; cases z
    | cons x xs => rw [hps] at z; cases z; exact List.mem_cons_self)
  obtain ⟨m, hns, hlk⟩ := I.loc
  obtain ⟨u, ru, hlook⟩ := hlk 0 a0 (.ref a) N0 h0 (.inl ka)
  obtain rfl : u = Value.ref a := ru
  have hm : m a0 = some (.ref a) := by
    rcases hlook with ⟨_, z⟩ | ⟨z | z, _⟩
    · exact z
    · have z' : sc.names.lookup a0 = some .cell := z
      rw [ka] at z'; cases z'
    · have z' : sc.names.lookup a0 = some .free := z
      rw [ka] at z'; cases z'
  obtain ⟨t1, ho⟩ := exo_at I.hok ea
  obtain ⟨oD, hD1, hD2⟩ : ∃ oD, s.heap.get? C = some oD ∧ oD.data = .cls cdD := by
    unfold PySem.W.clsIn at hD
    split at hD
    · rename_i c d cd' sl ho'
      cases hD
      exact ⟨_, X _ _ ho', rfl⟩
    · cases hD
  have aC : a ≠ C := fun z => by
    rw [z, hD1] at ho
    cases ho
    cases hD2
  refine PySem.ks_wpAt_Expr_any (PySem.ks_wpAt_MethodCall (pl := pl) ?_ hev) hin hsw
  refine PySem.ks_wpAt_super_base (env := PySem.W.ksEnv qu sc s0.heap.objs.size f (.ref cd) cc) S.ks S.kc (by decide) rfl (X _ _ lk) rfl hp rfl (X _ _ hco) rfl hvs hfile T.top ?_
  refine PySem.W.ks_loadName_global S.kind S.ks (PySem.Calls.loadGlobal_builtin (I.mod.glob.keeps I.bk) T.mg (hb.keeps I.bk) ((hbb _ (by decide +kernel)).trans (by decide +kernel)) ⟨rfl, ?_⟩)
  refine wpAny_loadName_free (v := .ref C) S.kind S.kc rfl ⟨_, X _ _ hcell, rfl⟩ ?_
  rw [har]
  refine wpAny_loadName_local S.kind ka hns hm ?_
  refine PySem.ks_wpAny_isType_cls hD1 hD2 ⟨rfl, ?_⟩
  obtain ⟨hh, g, d, t, os⟩ := s
  refine PySem.ks_wpAny_call_super hD1 hD2 ho rfl (fun c z => by cases z) (PySem.W.looks_mroIn X T.sub) (fun h1 hso k1 => ?_)
  have I1 : Inv (cxS P w K mg b0 N qu sc f cd cc A outer s0 H0 E) [] σ H ⟨h1, g, d, t, os⟩ := I.kept (t' := t) k1
  have X1 : K.In h1 := I1.kIn
  have sup := T.sup
  unfold PySem.W.ks_superIn at sup
  rw [hD] at sup
  have J : PySem.W.InstAt h1 a { cls := .ref C, dict := none, data := .fields #[.ref t1, .none, .none, .none, .bool false, .none] } C none := ⟨k1 _ _ ho, rfl, rfl, trivial⟩
  have hI : PySem.W.Looks (model P w) h1 (isInstance (.ref a) (.type "ValueError")) true := J.type.andThen (PySem.W.looks_subIn X1 T.val)
  refine PySem.W.kxs_getMethod (l₀ := cdD.mro) PySem.W.kxs_ValueError hso (PySem.W.looks_opaque X1 T.opq) (fun A Q E s k q => wpAny_bind ((PySem.W.looks_clsIn X1 hD) A _ E s k (wpAny_pure q))) rfl X1 sup hI aC (by decide) ?_
  have I2 := inv_pinNew I1 (t' := t + 1) (o := PySem.W.kxs_mw "ValueError.__init__" a) (fun b ob q => Heap.get?_push_of_some _ q) (Nat.le_refl _) (Heap.get?_push_at rfl rfl) (fun v z => by cases z)
  have ar1 : wpAny (model P w) (A.deeper (PySem.W.ksEnv qu sc s0.heap.objs.size f (.ref cd) cc)) (PySem.spliced (backTo p3 (starEach (e :: es) (PySem.W.ksEnv qu sc s0.heap.objs.size f (.ref cd) cc))))
      (fun us s1 => PySem.W.KxsAt "ValueError.__init__" h1.objs.size a s1.heap ∧ wpAny (model P w) (A.deeper (PySem.W.ksEnv qu sc s0.heap.objs.size f (.ref cd) cc)) (call (.ref h1.objs.size) us)
        (fun _ s' => Flow.next = .next ∧ ∃ H1, Inv (cxS P w K mg b0 N qu sc f cd cc A outer s0 H0 E) [] σ H1 s' ∧ R H1) (fun _ _ => False) s1) (fun _ _ => False) ⟨h1.push (PySem.W.kxs_mw "ValueError.__init__" a), g, d, t + 1, os⟩ :=
    wpAny_mono (ha.run p3 _ _ σ H _ I2 h) (fun us s1 q => by
      obtain ⟨vs, H1, J1, r1, hl, e1, q1⟩ := q
      have pu := (J1.pin (h1.objs.size, PySem.W.kxs_mw "ValueError.__init__" a) (List.mem_append_right _ List.mem_cons_self)).1
      exact ⟨pu, call_mw T.oex J1 e1 pu (by rw [← Paired.length r1, sizeLine_eq]; omega) fun s' J2 => ⟨rfl, H1, inv_unpin J2, q1⟩⟩) fun _ _ z => z
  show wpAny _ _ (callWith p3 (.ref h1.objs.size) [] (backTo p3 (starEach (e :: es) _)) []) _ _ _
  rw [he] at ar1 ⊢
  refine PySem.W.kxs_callWith (i := "ValueError.__init__") (x := a) (by show (false || (backTo p3 (starEach es _)).any (·.1)) = false; rw [hpl]; rfl) ?_
  exact PySem.Calls.evalArgs_plain ar1
end
end TA
set_option maxHeartbeats 4000000
namespace TA
open PySem PySem.Spec PyProof.Rows L2
theorem lookup_only {α : Type} {y : Str} {u : α} : ∀ {l : List (Str × α)}, (y, u) ∈ l → (∀ v, (y, v) ∈ l → v = u) → l.lookup y = some u
  | [], h, _ => nomatch h
  | (z, v) :: l, h, o => by
    by_cases e : y = z
    · subst e
      rw [List.lookup_cons_self, o v List.mem_cons_self]
    · rw [List.lookup_cons, show (y == z) = false from beq_eq_false_iff_ne.mpr e]
      refine lookup_only (l := l) ?_ fun v hv => o v (List.mem_cons_of_mem _ hv)
      rcases List.mem_cons.mp h with q | q
      · exact absurd (congrArg Prod.fst q) e
      · exact q
theorem zip_lookup {ps : List Str} {us : List Value} {i : Nat} {y : Str} {u : Value} (nd : ps.Nodup) (hp : ps[i]? = some y) (hu : us[i]? = some u) : (ps.zip us).reverse.lookup y = some u := by
  refine lookup_only (List.mem_reverse.mpr ?_) fun v hv => ?_
  · exact List.mem_of_getElem? (i := i) (by rw [List.getElem?_zip_eq_some]; exact ⟨hp, hu⟩)
  · obtain ⟨j, hj⟩ := List.getElem?_of_mem (List.mem_reverse.mp hv)
    obtain ⟨h1, h2⟩ := List.getElem?_zip_eq_some.mp hj
    have e : i = j := by
      obtain ⟨li, ei⟩ := List.getElem?_eq_some_iff.mp hp
      exact (List.getElem?_inj li nd).mp (hp.trans h1.symm)
    subst e
    rw [hu] at h2
    cases h2
    rfl
section
variable {P : Program} {w : World} {K : PySem.W.Frag} {mg : Str → Option Value} {b0 : Heap}
theorem inv_startS {N ps : List Str} {qu : Str} {sc : Scope} {f cd cc C : Addr} {A : Around} {outer : List Env} {s : Shared} {H : Hp} {E : XK} {us : List Value} {vs : List V} {a0 : Str} {h1 : Heap} {t' : Nat}
    (T : SupC P K mg C cc cd) (S : SupScope N ps sc a0) (hd : A.handled = none) (e0 : Env0 P w K mg b0 A outer s H) (hl : vs.length = ps.length) (r : Vals vs us) (hns : h1.Ns s.heap.objs.size (fun x => (ps.zip us).reverse.lookup x)) (hk : ∀ b o, s.heap.get? b = some o → h1.get? b = some o) :
    Inv (cxS P w K mg b0 N qu sc f cd cc A outer s H E) [] (start N vs) H { s with heap := h1, toks := t' } := by
  have hpl : ps.length ≤ N.length := by have := congrArg List.length S.pre; rw [List.length_take] at this; omega
  obtain ⟨cl, cld, csl, hcell⟩ := T.cell
  have one : ∀ x c, (PySem.W.ksEnv qu sc s.heap.objs.size f (.ref cd) cc).cells.lookup x = some c → x = "__class__" ∧ c = cc := fun x c z => by
    have z' : List.lookup x [(("__class__" : Str), cc)] = some c := z
    by_cases e : x = "__class__"
    · subst e
      rw [List.lookup_cons_self] at z'
      exact ⟨rfl, (Option.some.inj z').symm⟩
    · rw [List.lookup_cons, show (x == ("__class__" : Str)) = false from beq_eq_false_iff_ne.mpr e] at z'
      cases z'
  have hcb := e0.mod.kin _ _ hcell
  have hc0 := e0.bs _ _ hcb
  refine ⟨⟨e0.mod, S.kind, rfl, rfl, Nat.le_refl _, fun x y c h1 h2 => ?_, fun x hx => ?_, fun x c hf h => ?_, fun _ => hd, Around.frames_deeper e0.frames, .inr ⟨rfl, rfl⟩, fun b z => absurd (show b ∈ ([] : List Addr) from z) (by simp), e0.bs, e0.bsz,
      fun b _ _ z => absurd (show b ∈ ([] : List Addr) from z) (by simp), fun b z => absurd (show b ∈ ([] : List Addr) from z) (by simp), e0.funs, e0.frf⟩,
    rfl, e0.bare, Un.kept hk, ⟨_, hns, fun i y v h1 h2 h3 => ?_⟩, fun x c h => ?_, e0.hok.fresh (Nat.le_refl _), fun x c h => ?_, fun p hp => absurd (show p ∈ ([] : List (Addr × Obj)) from hp) (by simp), e0.hok.kept hk, ?_⟩
  · rw [(one x c h1).1, (one y c h2).1]
  · have hx : sc.names.lookup x = some .cell ∨ sc.names.lookup x = some .free := hx
    rcases hx with z | z
    · exact absurd rfl (S.nocell _ (PySem.mem_of_lookup z))
    · have e := S.free _ (PySem.mem_of_lookup z) rfl
      have e : x = "__class__" := e
      subst e
      exact ⟨cc, List.lookup_cons_self⟩
  · have e := (one x c h).1
    subst e
    exact absurd hf (by show ¬ ((!(("__class__" : Str) == "__class__")) = true); rw [beq_self_eq_true]; decide)
  · have hi : i < vs.length := by
      unfold L2.start at h2
      by_cases hi : i < vs.length
      · exact hi
      · rw [List.getElem?_append_right (by simpa using hi), List.getElem?_replicate] at h2
        split at h2 <;> cases h2
    have ha : vs[i]? = some v := by
      unfold L2.start at h2
      rw [List.getElem?_append_left (by simpa using hi), List.getElem?_map] at h2
      cases e : vs[i]? with
      | none => rw [e] at h2; cases h2
      | some a => rw [e] at h2; cases h2; rfl
    obtain ⟨u, hu, rv⟩ := r.get ha
    have hp : ps[i]? = some y := by
      rw [← S.pre, List.getElem?_take_of_lt (by omega)]
      exact h1
    have ndP : ps.Nodup := by rw [← S.pre]; exact S.nd.sublist (List.take_sublist _ _)
    exact ⟨u, rv, .inl ⟨S.par y (List.mem_of_getElem? hp), zip_lookup ndP hp hu⟩⟩
  · rw [(one x c h).2]
    exact ⟨_, _, hk _ _ hc0.1, rfl⟩
  · rw [(one x c h).2]
    exact hc0.2
  · unfold L2.start
    show _ = N.length
    rw [List.length_append, List.length_map, List.length_replicate]
    omega
theorem fn_sup {k : Nat} {f cd cc C : Addr} {nm qu : Str} {pa : Arguments} {rest : List Stmt} {sc : Scope} {dV kV dc pm ct oc : Value} {an od : Option Addr} {sl : Array (Option Value)} {N ps : List Str} {sp : Sp} {a0 : Str} {ar : Arg} {e : Expr} {es : List Expr} {p0 p1 p2 p3 p4 : Pos} {pl : Addr → Sem Bool}
    (lk : K.lookup f = some ⟨oc, od, .func (PySem.W.ksFn nm qu pa (stSup e es p0 p1 p2 p3 p4 :: rest) sc dV kV dc pm an (.ref cd) ct cc), sl⟩)
    (hcd : PySem.W.codeIn K (.ref cd) qu = true) (T : SupC P K mg C cc cd) (S : SupScope N ps sc a0) (hp : (pa.posonlyargs ++ pa.args).head? = some ar) (har : ar.arg = a0)
    (he : ∀ L, starEach (e :: es) (PySem.W.ksEnv qu sc L f (.ref cd) cc) = (false, eval e (PySem.W.ksEnv qu sc L f (.ref cd) cc)) :: starEach es (PySem.W.ksEnv qu sc L f (.ref cd) cc))
    (hpl : ∀ L, (backTo p3 (starEach es (PySem.W.ksEnv qu sc L f (.ref cd) cc))).any (·.1) = false)
    (hin : ∀ L, interactive (PySem.W.ksEnv qu sc L f (.ref cd) cc) = false)
    (hev : ∀ L, eval (.Call (.Attribute (.Call (.Name "super" p0) [] [] p1) "__init__" p2) (e :: es) [] p3) (PySem.W.ksEnv qu sc L f (.ref cd) cc) = (do
      let ov ← attributeBase (.Call (.Name "super" p0) [] [] p1) "__init__" (PySem.W.ksEnv qu sc L f (.ref cd) cc) (eval (.Call (.Name "super" p0) [] [] p1) (PySem.W.ksEnv qu sc L f (.ref cd) cc))
      standAt p2.atName
      let (g, first) ← holding [ov] (getMethod ov "__init__" (pl L))
      callWith p3 g first (backTo p3 (starEach (e :: es) (PySem.W.ksEnv qu sc L f (.ref cd) cc))) []))
    (hsw : ∀ L, swapsWith (.Call (.Attribute (.Call (.Name "super" p0) [] [] p1) "__init__" p2) (e :: es) [] p3) none p4.line (PySem.W.ksEnv qu sc L f (.ref cd) cc) = pure false)
    (len : ∀ vs H Q E, sp vs H Q E → vs.length = ps.length)
    (hb : ∀ (B : Around) (ou : List Env) (s : Shared) (H : Hp) (vs : List V) (Q : VK) (E : XK), Room k (B.deeper (PySem.W.ksEnv qu sc s.heap.objs.size f (.ref cd) cc)) → sp vs H Q E →
      ∃ a ws ta t, vs = .ref a :: ws ∧ H a = some (exo a C none) ∧ PA (cxS P w K mg b0 N qu sc f cd cc B ou s H E) (e :: es) ta ∧ PSs (cxS P w K mg b0 N qu sc f cd cc B ou s H E) rest t ∧
        ta (start N vs) H fun us H1 => us.length ≤ 1000 ∧ H1 a = some (exo a C none) ∧ t { nx := fun _ H' => Q .non H', rt := Q } (start N vs) H1) :
    FnOk P w K mg b0 CX0 (k + 1) f (PySem.W.ksFn nm qu pa (stSup e es p0 p1 p2 p3 p4 :: rest) sc dV kV dc pm an (.ref cd) ct cc) ps sp := by
  refine ⟨len, fun B ou s H ag us vs Q E hr e0 hbn r hsp => ?_⟩
  have kIn : K.In s.heap := e0.mod.kin.keeps fun b o e => (e0.bs b o e).1
  have nol : s.heap.NoLimit := e0.mod.nolimit.keeps fun b o e => (e0.bs b o e).1
  refine ks_codeAny_call_defAt (fd := PySem.W.ksFn nm qu pa (stSup e es p0 p1 p2 p3 p4 :: rest) sc dV kV dc pm an (.ref cd) ct cc) (body := stSup e es p0 p1 p2 p3 p4 :: rest) (binds := ps.zip us) hr.depth (kIn _ _ lk) rfl nol (PySem.W.codeRec_of kIn hcd) rfl hbn S.nocell
    (fun y hy => S.par y.1 (List.of_mem_zip hy).1) (fun h1 hns hk => ?_) S.co S.gen S.kind
  obtain ⟨a, ws, ta, t, rfl, ea, ha, ht, hta⟩ := hb B ou s H vs Q E (hr.deeper _) hsp
  have I := inv_startS (qu := qu) (f := f) (E := E) (t' := s.toks + (ps.zip us).length) T S hr.hd e0 (len _ _ _ _ hsp) r hns hk
  have h0 : (start N (.ref a :: ws))[0]? = some (some (.ref a)) := by
    unfold L2.start
    rfl
  refine ks_wpAt_execs_cons (ks_wpAt_mono (sup_stmt (body := stSup e es p0 p1 p2 p3 p4 :: rest) T S lk hp har I ea h0 ha hta (he _) (hpl _) (hin _) (hev _) (hsw _)) (fun fl s' z => ?_) fun _ _ z => z.elim)
  obtain ⟨rfl, H1, I1, q1⟩ := z
  refine _root_.PySem.wpAt_of_wpAny (wpAny_mono (ht.run [] s' _ H1 _ I1 q1) (fun fl s2 hs => ?_) fun _ _ z => z.elim)
  match fl, hs with
  | .ret u, ⟨v, σ', H', J, rv, q⟩ => exact ⟨v, H', J.os, J.bare, J.base, J.hok, rv, q⟩
  | .next, ⟨σ', H', J, q⟩ => exact ⟨V.non, H', J.os, J.bare, J.base, J.hok, rfl, q⟩
  | .brk, ⟨_, _, _, q⟩ => exact False.elim q
  | .cont, ⟨_, _, _, q⟩ => exact False.elim q
end
end TA
set_option maxHeartbeats 4000000
namespace TA
open PySem PySem.Spec PyProof.Rows L2
section
variable {X : Cx}
theorem pmk_anyN {C : Addr} {bmB : List Value} {B newId initId : String} {x : Str} {e : Expr} {ta : TE} {p pos : Pos} (F : ExcBaseFacts B newId initId bmB) (q : PySem.W.excIn X.K C bmB newId = true) (gC : X.mg x = some (.ref C)) (kC : PySem.W.keepIn X.K (.ref C) = true) (r : Raises X (.ref C)) (hg : Gl X x)
    (he : PE X e ta) (hs : starEach [e] X.env = (false, eval e X.env) :: starEach [] X.env := by rfl) (hdb : (x == ("__debug__" : Str)) = false := by decide) :
    L2N.PMk X (.Call (.Name x p) [e] [] pos) (fun σ H Q => ta σ H fun _ H1 => Q (.ref C) none H1) := by
  intro pins s σ H Q I h
  refine wpAny_Call_Name_kw (ld_glob I hg gC (PySem.W.callWith_K (h₀ := X.base) I.ok.mod.kin kC ?_ hs (by rfl)) hdb)
  rw [hs]
  refine Calls.spliced_cons (thn (he.run pins s σ H _ I h) fun u s1 ⟨v, H1, I1, r1, q1⟩ => Calls.spliced_nil ⟨I1.kIn, ?_⟩)
  obtain ⟨bm, N, nm, qn, bs, hdct, sn, sub, ab, col, dd, k0, k1, k2, k3, k5, mN, hC, hN, hni, T⟩ := exc_obj I1.kIn q
  exact wpAny_call_exc_subT F T hC hN hni (fun h' e hm => L2N.mk_of I1 hm r q1 (I1.hok.gone hm.new)) (by show 1 ≤ sizeLine; rw [sizeLine_eq]; omega)
theorem pmk_oexN {CX : CXT} {x : Str} {C fI : Addr} {k : Nat} {fd : FuncData} {ps : List Str} {sp : Sp} {e : Expr} {es : List Expr} {ta : TA} {p pos : Pos} (T : OexC X.K C) (iC : PySem.W.findIn X.K (.ref C) "__init__" = some (some (.ref fI))) (tI : PySem.W.typeIn X.K (.ref fI) = some (.type "function"))
    (F1 : FnOk X.prog X.w X.K X.mg X.base CX k fI fd ps sp) (hr : Room (k + 1) X.A) (hb : Binds X.K fd ps []) (hx : Passes CX X (fun _ _ _ => False)) (hg : Gl X x) (hm : X.mg x = some (.ref C)) (ha : PA X (e :: es) ta)
    (hdb : (x == ("__debug__" : Str)) = false := by decide) (he : starEach (e :: es) X.env = (false, eval e X.env) :: starEach es X.env := by rfl) (hpl : (backTo pos (starEach es X.env)).any (·.1) = false := by rfl) :
    L2N.PMk X (.Call (.Name x p) (e :: es) [] pos) (tMkO C sp [] ta) := by
  intro pins s σ H Q I h
  obtain ⟨nm, q, N, bs, bm, sn, sub, ab, col, dd, k0, k1, k2, k3, k5, hC, hbm⟩ := T.cls
  refine wpAny_Call_Name_kw (ld_glob I hg hm (PySem.W.callWith_K (h₀ := X.base) I.ok.mod.kin T.kC (thn (ha.run pos pins s σ H _ I h) fun us s1 ⟨vs, H1, I1, r1, hz, q1⟩ => ⟨I1.kIn, ?_⟩) he hpl) hdb)
  show wpAny _ _ (call (.ref C) us) _ _ _
  obtain ⟨hp, g, dr, tk, os⟩ := s1
  have hsz : hp.objs.size ≤ hp.objs.size + 1 := Nat.le_succ _
  have hq := q1 (hp.objs.size + 1) (I1.hok.fresh hsz)
  have kk : ∀ b o, hp.get? b = some o → ((hp.push (PySem.W.kdv_tup us)).push (PySem.HandSPX.excO C hp.objs.size)).get? b = some o := fun b o e => Heap.get?_push_of_some _ (Heap.get?_push_of_some _ e)
  have hget : ((hp.push (PySem.W.kdv_tup us)).push (PySem.HandSPX.excO C hp.objs.size)).get? (hp.objs.size + 1) = some (PySem.HandSPX.excO C hp.objs.size) := by heap_get
  have I2 : Inv X pins σ (upd H1 (hp.objs.size + 1) (exo (hp.objs.size + 1) C none)) ⟨(hp.push (PySem.W.kdv_tup us)).push (PySem.HandSPX.excO C hp.objs.size), g, dr, tk, os⟩ :=
    I1.laid (t' := tk) (a := hp.objs.size + 1) kk hsz (exo_ok hget)
  have r2 : Vals (V.ref (hp.objs.size + 1) :: (vs ++ [])) (Value.ref (hp.objs.size + 1) :: (us ++ [])) := .cons rfl (r1.append .nil)
  have hl : (Value.ref (hp.objs.size + 1) :: us ++ []).length = ps.length := (F1.len _ _ _ _ hq ▸ r2.length).symm
  have hus : us.length ≤ sizeLine := by
    rw [← Paired.length r1, sizeLine_eq]
    omega
  refine wpAny_call (PySem.HandSPX.call_own F.excBase_ValueError (fun Y => PySem.HandSPX.refsVE_contains Y bm hbm) (I1.kIn _ _ hC) (PySem.W.looks_findIn I1.kIn iC) (fun self => PySem.W.bind_fn I1.kIn self tI) hus
    (codeAny_mono (F1.run _ X.stack _ _ ⟨Value.ref (hp.objs.size + 1) :: us, []⟩ (Value.ref (hp.objs.size + 1) :: (us ++ [])) _ _ (fun _ _ _ => False) (hr.make C us []) (I2.env0.make C us []) (by have z := hb _ (Value.ref (hp.objs.size + 1) :: us) I2.kIn hl; rw [List.cons_append] at z; exact z) r2 hq) fun r s' hq' => ?_))
  match r, hq' with
  | .error er, hq' => exact hx pins σ _ _ er s' I2 hq'
  | .ok .next, hq' => exact False.elim hq'
  | .ok .brk, hq' => exact False.elim hq'
  | .ok .cont, hq' => exact False.elim hq'
  | .ok (.ret u), ⟨v, H2, os2, bare2, un2, hok2, rv, ev, d, fs, ea, ed, hd1, q2⟩ =>
    subst ev
    obtain ⟨h2, g2, d2, t2, os'⟩ := s'
    obtain ⟨t0, G, J, kG, ge, hoe, na⟩ := mk_end0 (d2 := d2) (t2 := t2) I1 hsz kk un2 hok2 os2 bare2 ea ed hd1
    exact ⟨rv, _, _, _, ⟨G, g2, d2, t2, os'⟩, _, .ref C, some d, rfl, J, kG, ge, hoe, ⟨rfl, rfl, fun vs e => by cases e; rfl⟩, rfl, rfl, na, rfl, bare2, raises_own T.exC T.tyC, q2⟩
end
end TA
set_option maxHeartbeats 4000000
namespace VL
noncomputable section
open PySem PySem.Spec PyProof.Rows L2
open GxR (TabB Tabbed)
variable [LamT]
def ExcAt (G : Gb) (H : Hp) (dx : Option Addr) (ns : List Str) (ds : List D) (F : List Addr) : Prop := ∃ us, (match dx with
  | none => us = []
  | some x => H x = some (.xd us)) ∧ us.map (·.1) = ns ∧ RdsL G H ds (us.map (·.2)) F
theorem excAt_nil {G : Gb} {H : Hp} : ExcAt G H none [] [] [] := ⟨[], rfl, rfl, rdsL_nil.mpr ⟨rfl, rfl⟩⟩
inductive OutX where
  | fin (o : Out) | exc (c : Nat) (ns : List Str) (ds : List D) (E : Env)
abbrev SX := Env → Option OutX
def PostE (G : Gb) (C : Ctx) (W : WX) (c : Nat) (ns : List Str) (ds : List D) (E : Env) : Prop :=
  ∀ σ H Fs dx F, Rel G C H σ E Fs → ExcAt G H dx ns ds F → F.Nodup → (∀ a ∈ F, C.H0 a = none ∧ ¬ C.T a ∧ ∀ i, Asg E i → a ∉ Fs i) → W (.ref (G.cls c)) dx σ H
def PostX (G : Gb) (ro : Bool) (C : Ctx) (W : WX) (N : Ends) : OutX → Prop
  | .fin o => Post G ro C N o
  | .exc c ns ds E => PostE G C W c ns ds E
def tVX (G : Gb) (ro : Bool) (W : WX) (S : SX) : TS := fun N σ H => ∃ C E Fs, Rel G C H σ E Fs ∧ ∃ o, S E = some o ∧ PostX G ro C W N o
abbrev VX (G : Gb) (X : Cx) (ro : Bool) (W : WX) (st : Stmt) (S : SX) : Prop := PS X st (tVX G ro W S)
abbrev VXs (G : Gb) (X : Cx) (ro : Bool) (W : WX) (sts : List Stmt) (S : SX) : Prop := PSs X sts (tVX G ro W S)
def xL (S : SF) : SX := fun E => (S E).map .fin
def xSeq (S T : SX) : SX := fun E => match S E with
  | some (.fin (.nx E')) => T E'
  | r => r
def xIf (t : TF) (S T : SX) : SX := fun E => match t E with
  | some (true, E') => S E'
  | some (false, E') => T E'
  | none => none
def forX (g : D → Env → Option Env) (b : SX) : List D → Env → Option OutX
  | [], E => some (.fin (.nx E))
  | d :: ds, E => match g d E with
    | none => none
    | some E1 => match b E1 with
      | some (.fin (.nx E2)) => forX g b ds E2
      | some (.fin (.ct E2)) => forX g b ds E2
      | some (.fin (.bk E2)) => some (.fin (.nx E2))
      | r => r
def xFor (k : Kind) (f : IF) (g : Bool → D → Env → Option Env) (b : SX) : SX := fun E => match f E with
  | some (ds, E') => forX (g (newAll E' k.S)) b ds (freeze E' k.S)
  | none => none
section
variable {G : Gb} {X : Cx} {ro : Bool} {W : WX} {st : Stmt} {sts rest : List Stmt} {S T : SX} {S0 : SF} {e : Expr} {M : List Nat} {k : Kind} {f : EF} {pos : Pos} {t : TF}
theorem lift_of {N : Ends} {σ : L2.St} {H : Hp} (h : tVX G ro W (xL S0) N σ H) : tVS G ro S0 N σ H := by
  obtain ⟨C, E, Fs, R, o, e, q⟩ := h
  unfold xL at e
  cases e1 : S0 E with
  | none => rw [e1] at e; cases e
  | some o1 =>
    rw [e1] at e
    cases e
    exact ⟨C, E, Fs, R, o1, e1, q⟩
theorem vx_of (h : VS G X ro st S0) : VX G X ro W st (xL S0) := PS.imp h fun N σ H q => lift_of q
theorem vxs_of (h : VSs G X ro sts S0) : VXs G X ro W sts (xL S0) := PSs.imp h fun N σ H q => lift_of q
theorem vxs_cons (h1 : VX G X ro W st S) (h2 : VXs G X ro W rest T) : VXs G X ro W (st :: rest) (xSeq S T) := PSs.imp (pss_cons h1 h2) fun N σ H ⟨C, E, Fs, R, o, e, q⟩ => by
  unfold xSeq at e
  split at e
  · rename_i E1 e1
    exact ⟨C, E, Fs, R, _, e1, fun σ1 H1 Fs1 R1 => ⟨C, E1, Fs1, R1, o, e, q⟩⟩
  · rename_i hn
    refine ⟨C, E, Fs, R, o, e, ?_⟩
    cases o with
    | exc c ns ds E' => exact q
    | fin o =>
      cases o with
      | nx E' => exact absurd e (hn E')
      | rt d E' => exact q
      | bk E' => exact q
      | ct E' => exact q
theorem vxs_one (h1 : VX G X ro W st S) : VXs G X ro W [st] S := pss_one h1
theorem vx_if {c : Expr} {a b : List Stmt} (hc : VT G X c M t) (ha : VXs G X ro W a S) (hb : VXs G X ro W b T) : VX G X ro W (.If c a b pos) (xIf t S T) := PS.imp (ps_if hc ha hb) fun N σ H ⟨C, E, Fs, R, o, e, q⟩ => by
  unfold xIf at e
  split at e
  · rename_i E1 e1
    refine ⟨C, E, Fs, R, true, E1, e1, fun H1 Fs1 R1 s1 => ?_⟩
    exact ite_tt ⟨C, E1, Fs1, R1, o, e, q⟩
  · rename_i E1 e1
    refine ⟨C, E, Fs, R, false, E1, e1, fun H1 Fs1 R1 s1 => ?_⟩
    exact ite_ff ⟨C, E1, Fs1, R1, o, e, q⟩
  · cases e
theorem vx_for {tg iter : Expr} {body : List Stmt} {W2 : List Nat} {f : IF} {g : Bool → D → Env → Option Env} {b : SX} (x : XOk G X) (hp : PassesOwn (model X.prog X.w) X.A X.env X.xe) (hi : VI G X tg iter M k f) (hg : ∀ b, VG G X tg (.pr b) W2 (g b)) (hb : VXs G X ro W body b)
    (hs : ∀ x, foldedSetIterable iter X.env x = pure x := by intro _; rfl) : VX G X ro W (.For tg iter body [] pos) (xFor k f g b) := PS.imp (ps_for hp x.calm hi (pg_ex hg) hb hs) fun N σ H ⟨C, E, Fs, R, o, e, q⟩ => by
  unfold xFor at e
  split at e
  · rename_i ds E' e1
    refine ⟨C, E, Fs, R, ds, E', e1, fun J Hb Fs' F R' s' it tr vw => ?_⟩
    have R1 := R'.lock R.hn tr vw
    have nwF := new_of R' R.hn vw
    generalize newAll E' k.S = bb at e nwF
    have un : ∀ {σ2 H2 E2 Fs2}, Rel G { C with T := fun a => C.T a ∨ a ∈ F, HT := Hb } H2 σ2 E2 Fs2 → Rel G C H2 σ2 E2 Fs2 := fun r => R'.unlock (fun a ha => .inl ha) r
    refine ⟨fun i m σ2 H2 => m = ds.length - i ∧ i ≤ ds.length ∧ ∃ E2 Fs2, Rel G { C with T := fun a => C.T a ∨ a ∈ F, HT := Hb } H2 σ2 E2 Fs2 ∧ forX (g bb) b (ds.drop i) E2 = some o, ⟨ds.length, by simp, Nat.zero_le _, _, _, R1, e⟩, ?_⟩
    rintro i m σ2 H2 ⟨rfl, hi, E2, Fs2, R2, e2⟩
    have c2 : Chg (fun a => a ∉ F) Hb H2 := R2.pr.mono fun q o _ h hF => h (.inr hF)
    by_cases hlt : i < ds.length
    · refine .inr ⟨it.go H2 i c2 hlt, fun σ3 H3 => ∃ E3 Fs3, Rel G { C with T := fun a => C.T a ∨ a ∈ F, HT := Hb } H3 σ3 E3 Fs3 ∧ forX (g bb) b (ds.drop (i + 1)) E3 = some o, fun σ3 H3 h3 => ⟨ds.length - (i + 1), by omega, rfl, hlt, h3⟩, fun y H3 hy => ?_⟩
      obtain ⟨c3, d, A, ed, rd, hA⟩ := it.yl H2 i y H3 c2 hlt hy
      have ed' : ds.drop i = d :: ds.drop (i + 1) := by
        rw [List.drop_eq_getElem_cons hlt]
        rw [List.getElem?_eq_getElem hlt] at ed
        cases ed
        rfl
      rw [ed'] at e2
      unfold forX at e2
      have R3 := R2.chg c3
      cases e3 : g bb d E2 with
      | none => rw [e3] at e2; cases e2
      | some E3 =>
        rw [e3] at e2
        dsimp only at e2
        refine ⟨bb, _, E2, Fs2, H3, A, d, R3, R3.hn, rd, ⟨fun a ha => .inr (hA a ha), fun z a ha => nwF z a (hA a ha)⟩, E3, e3, fun σ4 Fs4 R4 _ => ?_⟩
        cases e4 : b E3 with
        | none => rw [e4] at e2; cases e2
        | some o1 =>
          rw [e4] at e2
          refine ⟨_, E3, Fs4, R4, o1, e4, ?_⟩
          cases o1 with
          | exc c ns ds2 E5 =>
            cases e2
            exact fun σ5 H5 Fs5 dx F5 R5 r5 nd5 k5 => q σ5 H5 Fs5 dx F5 (un R5) r5 nd5 fun a ha => ⟨(k5 a ha).1, fun hT => (k5 a ha).2.1 (.inl hT), (k5 a ha).2.2⟩
          | fin o1 =>
            cases o1 with
            | nx E5 => exact fun σ5 H5 Fs5 R5 => ⟨E5, Fs5, R5, e2⟩
            | ct E5 => exact fun σ5 H5 Fs5 R5 => ⟨E5, Fs5, R5, e2⟩
            | bk E5 =>
              cases e2
              exact fun σ5 H5 Fs5 R5 => q σ5 H5 Fs5 (un R5)
            | rt r E5 =>
              cases e2
              exact fun v σ5 H5 Fs5 F5 R5 r5 k5 => q v σ5 H5 Fs5 F5 (un R5) r5 k5
    · have ei : ds.drop i = [] := List.drop_eq_nil_of_le (by omega)
      rw [ei] at e2
      cases e2
      exact .inl ⟨it.st H2 i c2 (by omega), q σ2 H2 Fs2 (un R2)⟩
  · cases e
structure RzC (G : Gb) (mg : Str → Option Value) (n : Str) (c : Nat) : Prop where
  gC : mg n = some (.ref (G.cls c))
  kC : PySem.W.keepIn G.K (.ref (G.cls c)) = true
  bE : PySem.W.subIn G.K (.ref (G.cls c)) (.type "BaseException") = some true
  tE : PySem.W.typeIn G.K (.ref (G.cls c)) = some (.type "type")
def xRz (c : Nat) (f : EF) : SX := fun E => match f E with
  | some (_, E') => some (.exc c [] [] E')
  | none => none
theorem vx_raise {c : Nat} {n : Str} {bmB : List Value} {B newId initId : String} {p pos2 : Pos} (x : XOk G X) (tk : L2N.Takes X W) (F : ExcBaseFacts B newId initId bmB) (z : RzC G X.mg n c) (hq : PySem.W.excIn G.K (G.cls c) bmB newId = true) (hg : Gl X n)
    (he : VE G X e M k f) (hs : starEach [e] X.env = (false, eval e X.env) :: starEach [] X.env := by rfl) (hdb : (n == ("__debug__" : Str)) = false := by decide) :
    VX G X ro W (.Raise (some (.Call (.Name n p) [e] [] pos2)) none pos) (xRz c f) :=
  PS.imp (L2N.ps_raise x.calm tk (TA.pmk_anyN F (by rw [x.K]; exact hq) z.gC (by rw [x.K]; exact z.kC) (raises_own (by rw [x.K]; exact z.bE) (by rw [x.K]; exact z.tE)) hg he hs hdb)) fun N σ H ⟨C, E, Fs, R, o, e, q⟩ => by
    unfold xRz at e
    split at e
    · rename_i d E' e1
      cases e
      exact ⟨C, E, Fs, R, d, E', e1, fun v H' Fs' F' R' s' r' k' => q σ H' Fs' none [] R' excAt_nil List.nodup_nil fun a ha => by cases ha⟩
    · cases e
end
inductive Res where
  | ret (d : D) | exc (c : Nat) (ns : List Str) (ds : List D)
abbrev FX := List D → Option Res
def spX (G : Gb) (ro : Bool) (n : Nat) (F : FX) : Sp := fun vs H Q E => ∃ ds FA, vs.length = n ∧ ArgIn G H [] ds vs FA ∧ (∀ T ∈ G.tabs, TabG H T) ∧ ∃ r, F ds = some r ∧ match r with
  | .ret d => ∀ v H' A, Rds G H' d v A → (ro = true → A.Nodup) → (∀ a ∈ A, H a = none) → Chg No H H' → Q v H'
  | .exc c ns es => ∀ dx H' A, ExcAt G H' dx ns es A → A.Nodup → (∀ a ∈ A, H a = none) → Chg No H H' → E (.ref (G.cls c)) dx H'
def callX (S : SX) (N : Nat) : FX := fun ds => match S (startE N [] ds) with
  | some (.fin (.rt d _)) => some (.ret d)
  | some (.fin (.nx _)) => some (.ret .non)
  | some (.exc c ns es _) => some (.exc c ns es)
  | _ => none
theorem spX_len {G : Gb} {ro : Bool} {n : Nat} {F : FX} : ∀ vs H Q E, spX G ro n F vs H Q E → vs.length = n := fun vs H Q E ⟨_, _, h, _⟩ => h
section
variable {P : Program} {w : World} {G : Gb} {mg : Str → Option Value} {b0 : Heap}
theorem post_callX {ro : Bool} {n : Nat} {S : SX} {N : List Str} {vs : List V} {H : Hp} {Q : VK} {E : XK} (hn : n ≤ N.length) (h : spX G ro n (callX S N.length) vs H Q E) :
    tVX G ro (fun cls d _ H => E cls d H) S { nx := fun _ H' => Q .non H', rt := Q } (start N vs) H := by
  obtain ⟨ds, FA, hl, ai, tb, r, eF, q⟩ := h
  have hds : ds.length = n := by rw [← ai.len]; exact hl
  let C : Ctx := ⟨H, fun i a => False, fun _ => False, H, fun j => .non⟩
  have R : Rel G C H (start N vs) (startE N.length [] ds) FA := by
    refine ⟨?_, fun i m d' e => ?_, fun i m d' e hw => ?_, fun i m d' e => ?_, Chg.refl _ _, Chg.refl _ _, fun q z => z.elim, tb⟩
    · rw [startE_len (by omega)]
      unfold L2.start
      rw [List.length_append, List.length_map, List.length_replicate, hl]
      omega
    · obtain ⟨h1, h2⟩ := startE_get e
      obtain ⟨v, h3, h4⟩ := ai.rd i d' h1
      refine ⟨v, ?_, h4, fun z => ?_⟩
      · unfold L2.start
        rw [List.getElem?_append_left (by rw [List.length_map]; exact (List.getElem?_eq_some_iff.mp h3).1), List.getElem?_map, h3]
        rfl
      · rcases h2 with ⟨_, h2⟩ | h2
        · cases h2
        · rw [h2] at z
          cases z
    · obtain ⟨h1, h2⟩ := startE_get e
      rcases h2 with ⟨rfl, h2⟩ | rfl
      · cases h2
      · cases hw
    · obtain ⟨h1, h2⟩ := startE_get e
      rcases h2 with ⟨rfl, h2⟩ | rfl
      · cases h2
      · exact ⟨fun z => (by cases z), fun z => (by cases z)⟩
  have ch : ∀ {σ' H' E' Fs}, Rel G C H' σ' E' Fs → Chg No H H' := fun R' => R'.fr.mono fun q o e ⟨i, hi⟩ => hi
  unfold callX at eF
  split at eF
  · rename_i d1 E1 e1
    cases eF
    exact ⟨C, _, FA, R, _, e1, fun v σ' H' Fs F' R' rd ret => q v H' F' rd ret.1 (fun a ha => (ret.2 a ha).1) (ch R')⟩
  · rename_i E1 e1
    cases eF
    exact ⟨C, _, FA, R, _, e1, fun σ' H' Fs R' => q .non H' [] (rds_non.mpr ⟨rfl, rfl⟩) (fun _ => List.nodup_nil) (fun a ha => by cases ha) (ch R')⟩
  · rename_i c ns es E1 e1
    cases eF
    exact ⟨C, _, FA, R, _, e1, fun σ' H' Fs dx F' R' ea nd k => q dx H' F' ea nd (fun a ha => (k a ha).1) (ch R')⟩
  · cases eF
theorem fnX {x qu : Str} {st : Stmt} {f : Addr} {fd : FuncData} {N ps : List Str} {k : Nat} {ro : Bool} {S : SX} (F : Fun G.K x qu st f fd) (Sc : FnScope N ps (defScope st)) (hn : ps.length ≤ N.length)
    (hb : ∀ (cd : Value) (B : Around) (ou : List PySem.Env) (s : Shared) (H : Hp) (E : XK) (W : WX), XOk G (cxOf (L2N.CX P w) P w G.K mg b0 N qu (defScope st) f cd B ou s H E) → (B.deeper (envOfC qu (defScope st) s.heap.objs.size f cd)).guards = some [] → Room k (B.deeper (envOfC qu (defScope st) s.heap.objs.size f cd)) →
      PassesOwn (model P w) (cxOf (L2N.CX P w) P w G.K mg b0 N qu (defScope st) f cd B ou s H E).A (cxOf (L2N.CX P w) P w G.K mg b0 N qu (defScope st) f cd B ou s H E).env (cxOf (L2N.CX P w) P w G.K mg b0 N qu (defScope st) f cd B ou s H E).xe →
      L2N.Takes (cxOf (L2N.CX P w) P w G.K mg b0 N qu (defScope st) f cd B ou s H E) W →
      VXs G (cxOf (L2N.CX P w) P w G.K mg b0 N qu (defScope st) f cd B ou s H E) ro W (defBody st) S) :
    TA.FnG P w G.K mg b0 (L2N.CX P w) (k + 1) f fd ps (spX G ro ps.length (callX S N.length)) := by
  obtain ⟨oc, od, kV, dc, pm, an, cd, ct, sl, rfl, lk, hcd⟩ := F.ex
  refine TA.fnG_of lk hcd Sc spX_len fun B ou s H vs Q E hg hr hsp => ?_
  exact ⟨_, hb cd B ou s H E _ ⟨rfl, rfl, show (B.deeper (envOfC qu (defScope st) s.heap.objs.size f cd)).units + 70 < cLine by have := hr.un; omega⟩ hg hr (passes_of rfl) (L2N.takes_of rfl rfl rfl rfl), post_callX hn hsp⟩
end
inductive ResE where
  | val (d : D) (E : Env) | exc (c : Nat) (ns : List Str) (ds : List D) (E : Env)
abbrev EX := Env → Option ResE
def tVe (G : Gb) (W : WX) (M : List Nat) (k : Kind) (f : EX) : TE := fun σ H Q => ∃ C E Fs, Rel G C H σ E Fs ∧ ∃ r, f E = some r ∧ match r with
  | .val d E' => ∀ v H' Fs' F, Rel G C H' σ E' Fs' → Stp M H H' E E' Fs Fs' → Rds G H' d v F → KOk σ H E' Fs' k d v F → Q v H'
  | .exc c ns ds E' => ∀ H' Fs' dx F, Rel G C H' σ E' Fs' → ExcAt G H' dx ns ds F → F.Nodup → (∀ a ∈ F, C.H0 a = none ∧ ¬ C.T a ∧ ∀ i, Asg E' i → a ∉ Fs' i) → W (.ref (G.cls c)) dx σ H'
abbrev VEx (G : Gb) (X : Cx) (W : WX) (e : Expr) (M : List Nat) (k : Kind) (f : EX) : Prop := PE X e (tVe G W M k f)
def xCall (F : FX) (l : LF) : EX := fun E => match l E with
  | some (ds, E') => (match F ds with
    | some (.ret d) => some (.val d E')
    | some (.exc c ns es) => some (.exc c ns es E')
    | none => none)
  | none => none
section
variable {G : Gb} {X : Cx} {W : WX} {k : Nat} {f : Addr} {fd : FuncData} {ps : List Str} {ro : Bool} {F : FX} {x : Str} {p pos : Pos} {e : Expr} {es : List Expr} {M : List Nat} {ks : List Kind} {l : LF}
theorem run_fnSG {pins : List (Addr × Obj)} {σ : L2.St} {H : Hp} {s : Shared} {CX : CXT} {sp : Sp} {E : L2.St → XK} {Q : VK} {us : List Value} {vs : List V} (F : TA.FnG X.prog X.w X.K X.mg X.base CX k f fd ps sp) (hg : X.A.guards = some []) (hr : Room k X.A) (hb : Binds X.K fd ps []) (hx : PassesAt CX X σ (E σ))
    (I : Inv X pins σ H s) (r : Vals vs us) (h : sp vs H Q (E σ)) : wpAny (model X.prog X.w) X.A (call (.ref f) us) (EP X pins σ Q) X.xe s := by
  have hl : us.length = ps.length := by rw [← r.length]; exact F.len _ _ _ _ h
  have b := hb s us I.kIn (by rw [List.append_nil]; exact hl)
  rw [List.append_nil] at b
  refine wpAny_call (codeAny_mono (F.run X.A X.stack s H ⟨us, []⟩ us vs Q (E σ) hg hr I.env0 b r h) fun r s' hq => ?_)
  match r, hq with
  | .error e, hq => exact hx pins H s e s' I hq
  | .ok (.ret u), hq => exact I.after hq
  | .ok .next, hq => exact False.elim hq
  | .ok .brk, hq => exact False.elim hq
  | .ok .cont, hq => exact False.elim hq
theorem pe_callSG {CX : CXT} {sp : Sp} {E : L2.St → XK} {t : TA} (F : TA.FnG X.prog X.w X.K X.mg X.base CX k f fd ps sp) (hgd : X.A.guards = some []) (hr : Room k X.A) (hg : Gl X x) (hm : X.mg x = some (.ref f)) (hk : PySem.W.keepIn X.K (.ref f) = true) (hb : Binds X.K fd ps []) (hx : ∀ σ, PassesAt CX X σ (E σ))
    (ha : PA X (e :: es) t) (hdb : (x == ("__debug__" : Str)) = false := by decide) (he : starEach (e :: es) X.env = (false, eval e X.env) :: starEach es X.env := by rfl) (hpl : (backTo pos (starEach es X.env)).any (·.1) = false := by rfl) :
    PE X (.Call (.Name x p) (e :: es) [] pos) (tCallS sp E t) := by
  refine ⟨fun pins s σ H Q I h => ?_⟩
  refine wpAny_Call_Name_kw (ld_glob I hg hm ?_ hdb)
  refine PySem.W.callWith_K (h₀ := X.base) I.ok.mod.kin hk (thn (ha.run pos pins s σ H _ I h) fun us s1 ⟨vs, H1, I1, r, q⟩ => ⟨I1.kIn, ?_⟩) he hpl
  exact run_fnSG F hgd hr hb (hx σ) I1 r q
theorem callX_of {σ : L2.St} {H : Hp} {Q : VK} (hn : ks.length = ps.length) (h : tVe G W M (kRet ro) (xCall F l) σ H Q) : tVL G M ks l σ H fun vs H1 => spX G ro ps.length F vs H1 Q (WE W σ) := by
  obtain ⟨C, E0, Fs, R, r, e, q⟩ := h
  unfold xCall at e
  split at e
  · rename_i ds E1 e1
    refine ⟨C, E0, Fs, R, ds, E1, e1, fun vs H1 Fs1 FF R1 s1 a1 => ?_⟩
    obtain ⟨l1, l2, l3, all⟩ := a1.all
    have fa : ∀ {j : Nat} {F' : List Addr}, FF[j]? = some F' → (FF[j]?).getD [] = F' := fun {j F'} e => by rw [e]; rfl
    have ai : ArgIn G H1 [] ds vs (fun j => (FF[j]?).getD []) := ⟨by rw [l2, l1], fun j dj ej => by
      have hj : j < ks.length := by rw [← l1]; exact (List.getElem?_eq_some_iff.mp ej).1
      obtain ⟨dd, v, F', h1, h2, h3, h4, _⟩ := all j _ (List.getElem?_eq_getElem hj)
      rw [ej] at h1
      cases h1
      exact ⟨v, h2, by rw [fa h3]; exact h4⟩, fun j hj => by cases hj⟩
    have tr1 : ∀ {i m d a}, E1[i]? = some (some (m, d)) → a ∈ Fs1 i → ∃ o, H1 a = some o := fun {i m d a} e ha => by
      obtain ⟨v, _, r, _⟩ := R1.rd i m d e
      obtain ⟨o, eo, _⟩ := Rds.trk d v _ r a ha
      exact ⟨o, eo⟩
    have new : ∀ {H3 : Hp} {A : List Addr}, (∀ a ∈ A, H1 a = none) → ∀ a ∈ A, ∀ i, Asg E1 i → a ∉ Fs1 i := fun nA a ha i ⟨m, d, e⟩ hm => by
      obtain ⟨o, eo⟩ := tr1 e hm
      rw [nA a ha] at eo
      cases eo
    refine ⟨ds, _, by rw [l2]; exact hn, ai, R1.tb, ?_⟩
    cases eF : F ds with
    | none => rw [eF] at e; cases e
    | some r1 =>
      rw [eF] at e
      refine ⟨r1, rfl, ?_⟩
      cases r1 with
      | ret d =>
        cases e
        intro v H3 A rA ndA nwA c3
        have R3 : Rel G C H3 σ E1 Fs1 := R1.chg c3
        have st3 : Stp M H H3 E0 E1 Fs Fs1 := (s1.trans (Stp.of (M := []) c3)).mono fun i hi => by simpa using hi
        refine q v H3 Fs1 A R3 st3 rA ?_
        have lo : ∀ a ∈ A, Loose H E1 Fs1 a := fun a ha => ⟨s1.chg.back (nwA a ha), fun i hi => new (H3 := H3) nwA a ha i hi⟩
        unfold kRet
        cases ro with
        | true => exact ⟨ndA rfl, fun a ha => .inr (lo a ha)⟩
        | false => exact fun a ha => .inr (lo a ha)
      | exc c ns es2 =>
        cases e
        intro dx H3 A ea ndA nwA c3
        exact q H3 Fs1 dx A (R1.chg c3) ea ndA fun a ha => ⟨(R1.hn a (nwA a ha)).1, (R1.hn a (nwA a ha)).2, fun i hi => new (H3 := H3) nwA a ha i hi⟩
  · cases e
theorem vex_call (F0 : TA.FnG X.prog X.w X.K X.mg X.base (L2N.CX X.prog X.w) k f fd ps (spX G ro ps.length F)) (tk : L2N.Takes X W) (hg : X.A.guards = some []) (hr : Room k X.A) (hgl : Gl X x) (hm : X.mg x = some (.ref f)) (hkp : PySem.W.keepIn X.K (.ref f) = true)
    (hb : Binds X.K fd ps []) (ha : VL G X (e :: es) M ks l) (hn : ks.length = ps.length := by rfl)
    (hdb : (x == ("__debug__" : Str)) = false := by decide) (he : starEach (e :: es) X.env = (false, eval e X.env) :: starEach es X.env := by rfl) (hpl : (backTo pos (starEach es X.env)).any (·.1) = false := by rfl) :
    VEx G X W (.Call (.Name x p) (e :: es) [] pos) M (kRet ro) (xCall F l) :=
  PE.imp (pe_callSG F0 hg hr hgl hm hkp hb (fun σ => L2N.passAt tk σ) ha hdb he hpl) fun σ H Q h => callX_of hn h
end
section
variable {G : Gb} {X : Cx} {ro : Bool} {W : WX} {e : Expr} {M : List Nat} {k : Kind} {f : EX} {pos : Pos}
def xDrop (f : EX) : SX := fun E => match f E with
  | some (.val _ E') => some (.fin (.nx E'))
  | some (.exc c ns ds E') => some (.exc c ns ds E')
  | none => none
theorem vx_expr (he : VEx G X W e M k f) (hs : swapsWith e none pos.line X.env = pure false := by rfl) : VX G X ro W (.Expr e pos) (xDrop f) := PS.imp (ps_expr he hs) fun N σ H ⟨C, E, Fs, R, o, e, q⟩ => by
  unfold xDrop at e
  split at e
  · rename_i d E1 e1
    cases e
    exact ⟨C, E, Fs, R, _, e1, fun v H' Fs' F R' s' r' k' => q σ H' Fs' R'⟩
  · rename_i c ns ds E1 e1
    cases e
    exact ⟨C, E, Fs, R, _, e1, fun H' Fs' dx F R' ea nd k' => q σ H' Fs' dx F R' ea nd k'⟩
  · cases e
end
end
end VL
set_option maxHeartbeats 4000000
namespace TA
open PySem PySem.Spec PyProof.Rows L2 L2H
section
variable {X : Cx}
def HotB (Y : Cx) : Prop := ∃ p, Hot1 Y.A p ∧ Y.s_0.heap.get? p.1 = some p.2 ∧ Y.H_0 p.1 = none ∧ p.1 ∉ Y.fs ∧ p.1 ∉ Y.ex
theorem HotB.at {Y : Cx} {pins : List (Addr × Obj)} {σ : L2.St} {H : Hp} {s : Shared} (c : HotB Y) (I : Inv Y pins σ H s) : ∃ x, HotX.HotAt Y.A x s.heap := by
  obtain ⟨p, ⟨h1, vs, h2, h3⟩, g1, g2, g3, g4⟩ := c
  exact ⟨p.1, h1, p.2, vs, I.base.keep p.1 p.2 g1 g2 g3 g4, h2, h3⟩
end
end TA
set_option maxHeartbeats 4000000
namespace TA
open PySem PySem.Spec PyProof.Rows L2 L2H HotX
def ZipSt (z TI TO i1 i2 a b : Addr) (i : Nat) (h : Heap) : Prop := IsZip h z TI TO .none ∧ IsPair h TI (.ref i1) (.ref i2) ∧ (∃ x y, IsPair h TO x y) ∧ h.IsListIter i1 a i ∧ h.IsListIter i2 b i
theorem five {z TI TO i1 i2 c : Addr} (h : c ∈ [z, TI, TO, i1, i2]) : c = z ∨ c = TI ∨ c = TO ∨ c = i1 ∨ c = i2 := by simpa using h
theorem ZipSt.obj {z TI TO i1 i2 a b : Addr} {i : Nat} {h : Heap} (st : ZipSt z TI TO i1 i2 a b i h) {c : Addr} (hc : c ∈ [z, TI, TO, i1, i2]) : ∃ o, h.get? c = some o ∧ ∀ v, o.data ≠ .cell v := by
  obtain ⟨s1, s2, ⟨x, y, s3⟩, ⟨o4, g4, _, d4⟩, ⟨o5, g5, _, d5⟩⟩ := st
  rcases five hc with rfl | rfl | rfl | rfl | rfl
  · exact ⟨_, s1, fun v e => nomatch e⟩
  · exact ⟨_, s2, fun v e => nomatch e⟩
  · exact ⟨_, s3, fun v e => nomatch e⟩
  · exact ⟨o4, g4, fun v e => (by rw [d4] at e; cases e)⟩
  · exact ⟨o5, g5, fun v e => (by rw [d5] at e; cases e)⟩
end TA
set_option maxHeartbeats 4000000
namespace TA
open PySem PySem.Spec PyProof.Rows L2 L2H
structure FnP (p : Addr × Obj) (P : Program) (w : World) (K : PySem.W.Frag) (mg : Str → Option Value) (base : Heap) (k : Nat) (f : Addr) (fd : FuncData) (ps : List Str) (sp : Sp) : Prop where
  len : ∀ vs H Q E, sp vs H Q E → vs.length = ps.length
  run : ∀ (A : Around) (ou : List Env) (s : Shared) (H : Hp) (ar : Args) (us : List Value) (vs : List V) (Q : VK) (E : XK), RoomH k A → Hot1 A p → PinOk ou H s p → Env0 P w K mg base A ou s H → BindsTo s fd ar (ps.zip us) → Vals vs us → sp vs H Q E →
    codeAny (model P w) A (.call (.ref f) ar) (CR CX0 ou P w H s Q E) s
section
variable {P : Program} {w : World} {K : PySem.W.Frag} {mg : Str → Option Value} {base : Heap} {p : Addr × Obj}
theorem okP {x qu : Str} {st : Stmt} {f : Addr} {fd : FuncData} {N ps : List Str} {k : Nat} {sp : Sp} (F : Fun K x qu st f fd) (S : FnScope N ps (defScope st)) (len : ∀ vs H Q E, sp vs H Q E → vs.length = ps.length)
    (hb : ∀ (cd : Value) (A : Around) (ou : List Env) (s : Shared) (H : Hp) (vs : List V) (Q : VK) (E : XK), Hot1 A p → RoomH k (A.deeper (envOfC qu (defScope st) s.heap.objs.size f cd)) → sp vs H Q E →
      ∃ t, PSs (cxH CX0 P w K mg base N qu (defScope st) f cd A ou s H E p) (defBody st) t ∧ t { nx := fun _ H' => Q .non H', rt := Q } (L2.start N vs) H) : FnP p P w K mg base (k + 1) f fd ps sp := by
  obtain ⟨oc, od, kV, dc, pm, an, cd, ct, osl, rfl, lk, hcd⟩ := F.ex
  refine ⟨len, fun A ou s H ar us vs Q E hr hot pin e0 bd r hsp => ?_⟩
  have kIn : K.In s.heap := e0.mod.kin.keeps fun b o e => (e0.bs b o e).1
  have nol : s.heap.NoLimit := e0.mod.nolimit.keeps fun b o e => (e0.bs b o e).1
  refine codeAny_call_function hr.depth (kIn _ _ lk) rfl S.co S.gen rfl (PySem.W.codeRec_of kIn hcd) (bd _ _ _ _ (wpAny_newFunctionEnv_cells S.kind (fun y hy => ?_) fun env he s1 x => ?_))
  · rcases S.par y.1 (List.of_mem_zip hy).1 with q | q
    · exact .inl q
    · exact .inr ⟨q, PySem.W.cellsFrom_some _ _ _ (.inl q)⟩
  subst he
  obtain ⟨t, ht, hq⟩ := hb cd A ou s H vs Q E hot (hr.deeper _) hsp
  refine ⟨nol.keeps x.toInCall.keep, codeAny_func (wpAny_mono (ht.run [] s1 (L2.start N vs) H _ (inv_startH (CX := CX0) (E := E) S pin e0 (len _ _ _ _ hsp) r x) hq) (fun fl s' hs => ?_) fun _ _ hs => hs)⟩
  match fl, hs with
  | .ret u, ⟨v, σ', H', J, rv, q⟩ => exact ⟨v, H', J.os, J.bare, J.base, J.hok, rv, q⟩
  | .next, ⟨σ', H', J, q⟩ => exact ⟨V.non, H', J.os, J.bare, J.base, J.hok, rfl, q⟩
  | .brk, ⟨_, _, _, q⟩ => exact False.elim q
  | .cont, ⟨_, _, _, q⟩ => exact False.elim q
end
section
variable {X : Cx} {p : Addr × Obj} {k : Nat} {f : Addr} {fd : FuncData} {ps : List Str} {sp : Sp} {x : Str} {q pos : Pos} {e : Expr} {es : List Expr} {t : TA}
theorem pe_callP (F : FnP p X.prog X.w X.K X.mg X.base k f fd ps sp) (hr : RoomH k X.A) (hot : Hot1 X.A p) (hp : p ∈ X.pn) (hg : Gl X x) (hm : X.mg x = some (.ref f)) (hk : PySem.W.keepIn X.K (.ref f) = true) (hb : Binds X.K fd ps [])
    (ha : PA X (e :: es) t) (hdb : (x == ("__debug__" : Str)) = false := by decide) (he : starEach (e :: es) X.env = (false, eval e X.env) :: starEach es X.env := by rfl) (hpl : (backTo pos (starEach es X.env)).any (·.1) = false := by rfl) :
    PE X (.Call (.Name x q) (e :: es) [] pos) (tCall sp [] E0 t) := by
  refine ⟨fun pins s σ H Q I h => wpAny_Call_Name_kw (ld_glob I hg hm (PySem.W.callWith_K (h₀ := X.base) I.ok.mod.kin hk (thn (ha.run pos pins s σ H _ I h) fun us s1 ⟨vs, H1, J, r, z⟩ => ⟨J.kIn, ?_⟩) he hpl) hdb)⟩
  have z : sp (vs ++ []) H1 Q E0 := z
  rw [List.append_nil] at z
  show wpAny _ _ (call (.ref f) us) _ _ _
  have hl : us.length = ps.length := by rw [← r.length]; exact F.len _ _ _ _ z
  have b := hb s1 us J.kIn (by rw [List.append_nil]; exact hl)
  rw [List.append_nil] at b
  have P1 := J.pin p (List.mem_append_left _ hp)
  have pin : PinOk X.stack H1 s1 p := ⟨P1.1, P1.2.1, fun m => (List.mem_cons.mp (J.stkSub p.1 m)).elim P1.2.2.1 P1.2.2.2.1, P1.2.2.2.2⟩
  refine wpAny_call (codeAny_mono (F.run X.A X.stack s1 H1 ⟨us, []⟩ us vs Q E0 hr hot pin J.env0 b r z) fun r s' hq => ?_)
  match r, hq with
  | .error _, hq => exact False.elim hq
  | .ok (.ret u), hq => exact J.after hq
  | .ok .next, hq => exact False.elim hq
  | .ok .brk, hq => exact False.elim hq
  | .ok .cont, hq => exact False.elim hq
end
end TA
set_option maxHeartbeats 4000000
namespace TA
open PySem PySem.Spec PyProof.Rows L2 L2H
structure ExP (K : PySem.W.Frag) (pn : List (Addr × Obj)) (a D : Addr) (d : Option Addr) : Prop where
  cls : ExcC K D
  at_ : ∃ oe, (a, oe) ∈ pn ∧ Zc (.ref D) d oe ∧ ∃ vs, oe.data = .fields vs
def DictOk (H : Hp) (d : Option Addr) : Prop := ∀ x, d = some x → ∃ fs, H x = some (.xd fs)
section
variable {X : Cx} {pins : List (Addr × Obj)} {σ : L2.St} {H : Hp} {s : Shared}
theorem kit_exp {a D : Addr} {d : Option Addr} (C : ExP X.K X.pn a D d) (I : Inv X pins σ H s) (hd : DictOk H d) : ∃ P : Heap → Prop, PySem.W.KitX X.K (.ref a) (.ref D) P ∧ P s.heap := by
  obtain ⟨oe, hp, ⟨hz1, hz2⟩, vs, hv⟩ := C.at_
  have g := (I.pin (a, oe) (List.mem_append.mpr (.inl hp))).1
  obtain ⟨od, ho⟩ : ∃ od : Option Obj, PySem.W.InstAt s.heap a oe D od := by
    cases d with
    | none => exact ⟨none, g, hz1, by unfold PySem.W.notCls; rw [hv], by rw [hz2]; trivial⟩
    | some x =>
      obtain ⟨fs, hx⟩ := hd x rfl
      obtain ⟨mA, ⟨o, es, ep, e, _⟩, _⟩ := (show ObjOk X.prog X.w H s.heap x (.xd fs) from I.hok x _ hx)
      exact ⟨some o, g, hz1, by unfold PySem.W.notCls; rw [hv], by rw [hz2]; exact e⟩
  obtain ⟨cd, hc, _⟩ := PySem.W.any_some C.cls.hd
  have hcl : (PySem.W.clsIn X.K D).isSome = true := by rw [hc]; rfl
  exact ⟨_, PySem.W.kitx_exc (ox := oe) (od := od) hcl C.cls.hg C.cls.hk C.cls.hs C.cls.ha C.cls.hn C.cls.ht C.cls.hm, ho⟩
def rIsX (K : PySem.W.Frag) (D a : Addr) (d : Option Addr) : List V → Hp → VK → Prop := fun xs H Q => ∃ (c : V) (u : Value) (b : Bool), xs = [.ref a, c] ∧ ClsV c u ∧ DictOk H d ∧ PySem.W.kitOne K (.ref D) u = some b ∧ Q (.bl b) H
theorem call_isX {a D : Addr} {d : Option Addr} (C : ExP X.K X.pn a D d) : CallR X (.builtin "isinstance") (rIsX X.K D a d) := by
  intro pins s σ H xs us Q I r h
  obtain ⟨c, u, b, rfl, hc, hd, e, q⟩ := h
  obtain ⟨u1, u2, rfl, r1, r2⟩ := vals2 r
  obtain rfl : u1 = Value.ref a := r1
  obtain rfl := hc.eq r2
  obtain ⟨P, k, hP⟩ := kit_exp C I hd
  exact PySem.W.kia_one k I.kIn hP e (fun z => nomatch z) fun tk => ⟨.bl b, H, I.kept (t' := tk) fun _ _ z => z, rfl, q⟩
def rIsXT (K : PySem.W.Frag) (D a : Addr) (d : Option Addr) : List V → Hp → VK → Prop := fun xs H Q => ∃ (tp : Addr) (cs : List V) (us : List Value) (b : Bool), xs = [.ref a, .ref tp] ∧ H tp = some (.tup cs) ∧ Paired ClsV cs us ∧ DictOk H d ∧ PySem.W.kitAny K (.ref D) us = some b ∧ Q (.bl b) H
theorem call_isXT {a D : Addr} {d : Option Addr} (C : ExP X.K X.pn a D d) : CallR X (.builtin "isinstance") (rIsXT X.K D a d) := by
  intro pins s σ H xs us Q I r h
  obtain ⟨tp, cs, ws, b, rfl, hT, k, hd, e, q⟩ := h
  obtain ⟨u1, u2, rfl, r1, r2⟩ := vals2 r
  obtain rfl : u1 = Value.ref a := r1
  obtain rfl : u2 = Value.ref tp := r2
  obtain ⟨P, z, hP⟩ := kit_exp C I hd
  obtain ⟨_, its, rv, o, h1, h2, n, h3⟩ := (show ObjOk X.prog X.w H s.heap tp (.tup cs) from I.hok tp _ hT)
  obtain rfl := ClsV.all k rv
  obtain ⟨oc, od, dt, sl⟩ := o
  dsimp only at h2 h3
  subst h2 h3
  exact PySem.W.kia_tup z I.kIn hP h1 e (fun z => nomatch z) fun tk => ⟨.bl b, H, I.tok tk, rfl, q⟩
end
end TA
namespace TA
open PySem PySem.Spec PyProof.Rows L2 L2H
def tXp (a : Addr) (d : Option Addr) (f : Str) (te : TE) : TE := fun σ H Q => te σ H fun x H1 => x = .ref a ∧ ∃ (dd : Addr) (fs : List (Str × V)) (v : V), d = some dd ∧ H1 dd = some (.xd fs) ∧ fs.lookup f = some v ∧ Q v H1
theorem pe_xp {X : Cx} {a D : Addr} {d : Option Addr} {e : Expr} {te : TE} {pos : Pos} {n : Str} (C : ExP X.K X.pn a D d) (hno : PySem.W.findIn X.K (.ref D) n = some none) (he : PE X e te)
    (hb : attributeBase e n X.env (eval e X.env) = eval e X.env := by rfl) : PE X (.Attribute e n pos) (tXp a d n te) := by
  refine ⟨fun pins s σ H Q I h => attr_of hb (thn (he.run pins s σ H _ I h) fun u s1 hh => ?_)⟩
  obtain ⟨x, H1, I1, rx, ex, dd, fs, v, ed, ea, l, q⟩ := hh
  subst ex ed
  obtain rfl : u = Value.ref a := rx
  obtain ⟨oe, hp, ⟨hz1, hz2⟩, vs, hv⟩ := C.at_
  have g := (I1.pin (a, oe) (List.mem_append.mpr (.inl hp))).1
  obtain ⟨mA, hns, hr⟩ := (show ObjOk X.prog X.w H1 s1.heap dd (.xd fs) from I1.hok dd _ ea)
  obtain ⟨od, ho, hl⟩ := lookIn_ns hns
  obtain ⟨u, hu, ru⟩ := RelO.some_of (v := v) (o := mA n) (by rw [← l]; exact hr n)
  have J : PySem.W.InstAt s1.heap a oe D (some od) := ⟨g, hz1, by unfold PySem.W.notCls; rw [hv], by rw [hz2]; exact ho⟩
  exact HandSPX.exc_get I1.kIn J C.cls.hg C.cls.hk C.cls.hs (PySem.W.findObj_own C.cls.hd hno rfl (by rw [hl, hu])) (handed_of ru) ⟨v, H1, I1.tok _, ru, q⟩
end TA
set_option maxHeartbeats 4000000
namespace VL
noncomputable section
open PySem PySem.Spec PyProof.Rows L2 L2H
open GxR (TabB Tabbed)
variable [LamT]
def Gb.heat (G : Gb) (p : Addr × Nat × Option Addr) : Gb := { G with hot := some p }
mutual
def D.cool : D → Bool
  | .tup ds => D.coolL ds
  | .lst ds => D.coolL ds
  | .dct _ ds => D.coolL ds
  | .obj _ _ ds => D.coolL ds
  | .exn _ _ _ => false
  | _ => true
def D.coolL : List D → Bool
  | [] => true
  | d :: ds => d.cool && D.coolL ds
end
theorem coolL_map {α : Type} {f : α → D} : ∀ {l : List α}, (∀ x ∈ l, (f x).cool = true) → D.coolL (l.map f) = true
  | [], _ => rfl
  | x :: l, h => by
    rw [List.map_cons, D.coolL, h x List.mem_cons_self, coolL_map fun y hy => h y (List.mem_cons_of_mem _ hy)]
    rfl
theorem coolL_mem : ∀ {l : List D}, (∀ x ∈ l, x.cool = true) → D.coolL l = true
  | [], _ => rfl
  | x :: l, h => by
    rw [D.coolL, h x List.mem_cons_self, coolL_mem fun y hy => h y (List.mem_cons_of_mem _ hy)]
    rfl
def coolE (E : Env) : Bool := E.all fun x => match x with
  | some (_, d) => d.cool
  | none => true
section
variable {G : Gb} {p : Addr × Nat × Option Addr} {H : Hp}
mutual
theorem Rds.heat (h0 : G.hot = none) : ∀ (d : D) (v : V) (F : List Addr), Rds G H d v F → Rds (G.heat p) H d v F
  | .non, _, _, h => by unfold Rds at h ⊢; exact h
  | .bl _, _, _, h => by unfold Rds at h ⊢; exact h
  | .int _, _, _, h => by unfold Rds at h ⊢; exact h
  | .str _, _, _, h => by unfold Rds at h ⊢; exact h
  | .tup ds, v, F, h => by
    unfold Rds at h ⊢
    obtain ⟨a, xs, h1, h2, h3⟩ := h
    exact ⟨a, xs, h1, h2, RdsL.heat h0 ds xs F h3⟩
  | .lst ds, v, F, h => by
    unfold Rds at h ⊢
    obtain ⟨a, xs, A, h1, h2, h3, h4⟩ := h
    exact ⟨a, xs, A, h1, h2, RdsL.heat h0 ds xs A h3, h4⟩
  | .dct ks ds, v, F, h => by
    unfold Rds at h ⊢
    obtain ⟨a, us, A, h1, h2, h3, h4, h5⟩ := h
    exact ⟨a, us, A, h1, h2, h3, RdsL.heat h0 ds _ A h4, h5⟩
  | .obj k ns ds, v, F, h => by
    unfold Rds at h ⊢
    obtain ⟨a, dx, us, A, h1, h2, h3, h4, h5⟩ := h
    exact ⟨a, dx, us, A, h1, h2, h3, RdsL.heat h0 ds _ A h4, h5⟩
  | .scr ns, v, F, h => by unfold Rds at h ⊢; exact h
  | .any, _, _, h => by unfold Rds at h ⊢; exact h
  | .exn c ns ds, v, F, h => by
    unfold Rds at h
    obtain ⟨a, dx, us, h1, _⟩ := h
    rw [h0] at h1
    cases h1
theorem RdsL.heat (h0 : G.hot = none) : ∀ (ds : List D) (vs : List V) (F : List Addr), RdsL G H ds vs F → RdsL (G.heat p) H ds vs F
  | [], _, _, h => by unfold RdsL at h ⊢; exact h
  | d :: ds, vs, F, h => by
    unfold RdsL at h ⊢
    obtain ⟨x, r, A, B, h1, h2, h3, h4⟩ := h
    exact ⟨x, r, A, B, h1, h2, Rds.heat h0 d x A h3, RdsL.heat h0 ds r B h4⟩
end
mutual
theorem Rds.coolG : ∀ (d : D) (v : V) (F : List Addr), d.cool = true → Rds (G.heat p) H d v F → Rds G H d v F
  | .non, _, _, _, h => by unfold Rds at h ⊢; exact h
  | .bl _, _, _, _, h => by unfold Rds at h ⊢; exact h
  | .int _, _, _, _, h => by unfold Rds at h ⊢; exact h
  | .str _, _, _, _, h => by unfold Rds at h ⊢; exact h
  | .tup ds, v, F, c, h => by
    unfold Rds at h ⊢
    obtain ⟨a, xs, h1, h2, h3⟩ := h
    exact ⟨a, xs, h1, h2, RdsL.coolG ds xs F (by unfold D.cool at c; exact c) h3⟩
  | .lst ds, v, F, c, h => by
    unfold Rds at h ⊢
    obtain ⟨a, xs, A, h1, h2, h3, h4⟩ := h
    exact ⟨a, xs, A, h1, h2, RdsL.coolG ds xs A (by unfold D.cool at c; exact c) h3, h4⟩
  | .dct ks ds, v, F, c, h => by
    unfold Rds at h ⊢
    obtain ⟨a, us, A, h1, h2, h3, h4, h5⟩ := h
    exact ⟨a, us, A, h1, h2, h3, RdsL.coolG ds _ A (by unfold D.cool at c; exact c) h4, h5⟩
  | .obj k ns ds, v, F, c, h => by
    unfold Rds at h ⊢
    obtain ⟨a, dx, us, A, h1, h2, h3, h4, h5⟩ := h
    exact ⟨a, dx, us, A, h1, h2, h3, RdsL.coolG ds _ A (by unfold D.cool at c; exact c) h4, h5⟩
  | .scr ns, v, F, _, h => by unfold Rds at h ⊢; exact h
  | .any, _, _, _, h => by unfold Rds at h ⊢; exact h
  | .exn c ns ds, v, F, k, h => by unfold D.cool at k; cases k
theorem RdsL.coolG : ∀ (ds : List D) (vs : List V) (F : List Addr), D.coolL ds = true → RdsL (G.heat p) H ds vs F → RdsL G H ds vs F
  | [], _, _, _, h => by unfold RdsL at h ⊢; exact h
  | d :: ds, vs, F, c, h => by
    unfold RdsL at h ⊢
    unfold D.coolL at c
    rw [Bool.and_eq_true] at c
    obtain ⟨x, r, A, B, h1, h2, h3, h4⟩ := h
    exact ⟨x, r, A, B, h1, h2, Rds.coolG d x A c.1 h3, RdsL.coolG ds r B c.2 h4⟩
end
variable {C : Ctx} {σ : L2.St} {E : Env} {Fs : Nat → List Addr} {i : Nat}
theorem Rel.heat (h0 : G.hot = none) (R : Rel G C H σ E Fs) : Rel (G.heat p) C H σ E Fs :=
  ⟨R.len, fun i m d e => let ⟨v, h1, h2, h3⟩ := R.rd i m d e; ⟨v, h1, Rds.heat h0 d v _ h2, h3⟩, R.nd, R.nw, R.fr, R.pr, R.pt, R.tb⟩
theorem Rel.coolG (c : coolE E = true) (R : Rel (G.heat p) C H σ E Fs) : Rel G C H σ E Fs :=
  ⟨R.len, fun i m d e => let ⟨v, h1, h2, h3⟩ := R.rd i m d e; ⟨v, h1, Rds.coolG d v _ (List.all_eq_true.mp c _ (List.mem_of_getElem? e)) h2, h3⟩, R.nd, R.nw, R.fr, R.pr, R.pt, R.tb⟩
theorem Rel.gone (R : Rel G C H σ E Fs) (i : Nat) : Rel G C H (σ.set i none) (E.set i none) Fs := by
  have R' := R.drop i
  refine ⟨by rw [List.length_set, List.length_set]; exact R.len, fun j m d e => ?_, R'.nd, R'.nw, R'.fr, R'.pr, R'.pt, R'.tb⟩
  obtain ⟨v, h1, h2, h3⟩ := R'.rd j m d e
  refine ⟨v, ?_, h2, h3⟩
  have ne : j ≠ i := fun z => by
    subst z
    by_cases hj : j < E.length
    · rw [List.getElem?_set_self hj] at e
      cases e
    · rw [List.getElem?_eq_none (by rw [List.length_set]; omega)] at e
      cases e
  rw [List.getElem?_set_ne (Ne.symm ne)]
  exact h1
end
structure XHot (G : Gb) (X : Cx) (cs : List Nat) : Prop where
  K : X.K = G.K
  un : X.A.units + 70 < cLine
  ex : ∃ a c d oe, c ∈ cs ∧ G.hot = some (a, c, d) ∧ (a, oe) ∈ X.pn ∧ Hot1 X.A (a, oe) ∧ Zc (.ref (G.cls c)) d oe ∧ ExcC X.K (G.cls c)
structure XU (G : Gb) (X : Cx) : Prop where
  K : X.K = G.K
  un : X.A.units + 70 < cLine
section
variable {G : Gb} {X : Cx} {cs : List Nat}
theorem XHot.u (x : XHot G X cs) : XU G X := ⟨x.K, x.un⟩
theorem XU.blk (x : XU G X) {s : Shared} {H : Hp} {scope : Scope} {env : PySem.Env} {fp : List Addr} : XU G (X.blk s H scope env fp) := ⟨x.K, x.un⟩
theorem ix_allU (x : XU G X) : IxR X (rIxAll X.K) := ix_seq.or (ix_dict (by have := x.un; omega))
theorem ve_subU (x : XU G X) {a b : Expr} {M M' : List Nat} {k k' : Kind} {f g : EF} {pos : Pos} (ha : VE G X a M k f) (hb : VE G X b M' k' g) (hs : PlainIx b := by intro _ _; rfl) (sf : k.safe M' = true := by rfl) : VE G X (.Subscript a b pos) (M ++ M') (kPart [k, k']) (ePrim pIx (lCons f (lCons g lNil))) :=
  ve_ix (ix_allU x) (prim_ix x.K) ha hb hs sf
theorem vt_truthU (x : XU G X) {e : Expr} {M : List Nat} {k : Kind} {f : EF} (he : VE G X e M k f) (hi : ∀ whole, isTrue e X.env whole = (do let v ← whole; standAt e.pos; holding [v] (truthy v)) := by intro _; rfl) : VT G X e M (toTr f) :=
  PT.imp (pt_truth he hi) fun σ H Q ⟨C, E, Fs, R, b, E', e, q⟩ => by
    unfold toTr at e
    split at e
    · rename_i d E1 e1
      split at e
      · rename_i b' e2
        cases e
        exact ⟨C, E, Fs, R, _, _, e1, fun v H' Fs' F R' s' r' _ => ⟨b, by rw [x.K]; exact tru_of e2 r', q H' Fs' R' s'⟩⟩
      · cases e
    · cases e
theorem op_neAllU (x : XU G X) : OpR X (compareOp .NotEq) (fun x y H Q => rNeD X.K x y H Q ∨ rNe x y H Q) := (op_neD (by have := x.un; omega)).or op_ne
def eIsx (cs : List Nat) (i : Nat) (t : Nat → Bool) : EF := fun E => match E[i]? with
  | some (some (_, .exn c _ _)) => if cs.contains c then some (.bl (t c), E) else none
  | _ => none
theorem exn_of {H : Hp} {c : Nat} {ns : List Str} {ds : List D} {v : V} {F : List Addr} {a : Addr} {c' : Nat} {d : Option Addr} (r : Rds G H (.exn c ns ds) v F) (h : G.hot = some (a, c', d)) : c = c' ∧ v = .ref a ∧ ∃ us, ((∀ x, d = some x → H x = some (.xd us)) ∧ (d = none → us = [])) ∧ us.map (·.1) = ns ∧ RdsL G H ds (us.map (·.2)) F := by
  unfold Rds at r
  obtain ⟨a2, d2, us, h1, h2, h3, h4, h5⟩ := r
  rw [h] at h1
  cases h1
  refine ⟨rfl, h2, us, ?_, h4, h5⟩
  cases d with
  | none => exact ⟨fun x z => (by cases z), fun _ => h3⟩
  | some y => exact ⟨fun x z => (by cases z; exact h3), fun z => (by cases z)⟩
theorem XHot.exP (x : XHot G X cs) : ∃ a c d oe, c ∈ cs ∧ G.hot = some (a, c, d) ∧ (a, oe) ∈ X.pn ∧ Hot1 X.A (a, oe) ∧ Zc (.ref (G.cls c)) d oe ∧ TA.ExP X.K X.pn a (G.cls c) d := by
  obtain ⟨a, c, d, oe, h1, h2, h3, h4, h5, h6⟩ := x.ex
  exact ⟨a, c, d, oe, h1, h2, h3, h4, h5, h6, oe, h3, h5, let ⟨_, vs, hv, _⟩ := h4; ⟨vs, hv⟩⟩
theorem ve_isx (x : XHot G X cs) {i : Nat} {en ec : Expr} {cv : V} {u : Value} {t : Nat → Bool} {q pos : Pos} (hv : PE X en (tVar i)) (hc : PE X ec (tC cv)) (kv : ClsV cv u) (hk : ∀ c ∈ cs, PySem.W.kitOne G.K (.ref (G.cls c)) u = some (t c)) (hg : Gl X "isinstance") (hm : X.mg "isinstance" = none)
    (n1 : starEach [en, ec] X.env = (false, eval en X.env) :: starEach [ec] X.env := by rfl) (n2 : starEach [ec] X.env = (false, eval ec X.env) :: starEach [] X.env := by rfl) (hp : (backTo pos (starEach [ec] X.env)).any (·.1) = false := by rfl) :
    VE G X (.Call (.Name "isinstance" q) [en, ec] [] pos) [] .own (eIsx cs i t) := by
  obtain ⟨a, c, d, oe, h1, h2, h3, h4, h5, ex⟩ := x.exP
  refine PE.imp (pe_callB (id := "isinstance") (r := TA.rIsX X.K (G.cls c) a d) (TA.call_isX ex) hg hm (by decide +kernel) (pa_cons hv (pa_cons hc pa_nil n2) n1) (by decide) (by decide) n1 hp) fun σ H Q ⟨C, E, Fs, R, dd, E', e, q⟩ => ?_
  unfold eIsx at e
  split at e
  · rename_i m c' ns ds ei
    split at e
    · cases e
      obtain ⟨v, g1, g2, _⟩ := R.rd i m _ ei
      obtain ⟨rfl, rfl, us, k1, k2, k3⟩ := exn_of g2 h2
      refine ⟨.ref a, g1, cv, u, t c', rfl, kv, fun z ez => ?_, by rw [x.K]; exact hk c' h1, q (.bl (t c')) H Fs [] R Stp.refl (rds_bl.mpr ⟨rfl, rfl⟩) ⟨List.nodup_nil, fun a ha => by cases ha⟩⟩
      exact ⟨us, k1.1 z ez⟩
    · cases e
  · cases e
def xlk (n : Str) : List Str → List D → Option D
  | x :: ns, d :: ds => if x = n then some d else xlk n ns ds
  | _, _ => none
def eXat (i : Nat) (n : Str) : EF := fun E => match E[i]? with
  | some (some (_, .exn _ ns ds)) => (xlk n ns ds).map fun d => (d, E)
  | _ => none
theorem xlk_of {H : Hp} {n : Str} : ∀ {us : List (Str × V)} {ns : List Str} {ds : List D} {F : List Addr} {d : D}, us.map (·.1) = ns → RdsL G H ds (us.map (·.2)) F → xlk n ns ds = some d → ∃ v A, us.lookup n = some v ∧ Rds G H d v A ∧ A.Sublist F
  | [], ns, ds, F, d, h1, h2, h3 => by
    subst h1
    cases ds <;> cases h3
  | (y, v) :: us, ns, ds, F, d, h1, h2, h3 => by
    subst h1
    cases ds with
    | nil => cases h3
    | cons d' ds =>
      obtain ⟨x, r, A, B, e1, rfl, g1, g2⟩ := rdsL_cons.mp h2
      cases e1
      rw [List.map_cons] at h3
      unfold xlk at h3
      rw [List.lookup_cons]
      by_cases hy : y = n
      · subst hy
        rw [if_pos rfl] at h3
        cases h3
        exact ⟨v, A, by simp, g1, List.sublist_append_left A B⟩
      · rw [if_neg hy] at h3
        obtain ⟨v', A', a1, a2, a3⟩ := xlk_of (us := us) rfl g2 h3
        refine ⟨v', A', ?_, a2, a3.trans (List.sublist_append_right A B)⟩
        have : (n == y) = false := by simpa using fun z : n = y => hy z.symm
        rw [this]
        exact a1
theorem ve_xat (x : XHot G X cs) {i : Nat} {en : Expr} {n : Str} {pos : Pos} (hv : PE X en (tVar i)) (hno : ∀ c ∈ cs, PySem.W.findIn G.K (.ref (G.cls c)) n = some none) (hb : attributeBase en n X.env (eval en X.env) = eval en X.env := by rfl) :
    VE G X (.Attribute en n pos) [] (.sub i) (eXat i n) := by
  obtain ⟨a, c, d, oe, h1, h2, h3, h4, h5, ex⟩ := x.exP
  refine PE.imp (TA.pe_xp ex (by rw [x.K]; exact hno c h1) hv hb) fun σ H Q ⟨C, E, Fs, R, dd, E', e, q⟩ => ?_
  unfold eXat at e
  split at e
  · rename_i m c' ns ds ei
    cases el : xlk n ns ds with
    | none => rw [el] at e; cases e
    | some d1 =>
      rw [el] at e
      cases e
      obtain ⟨v, g1, g2, _⟩ := R.rd i m _ ei
      obtain ⟨rfl, rfl, us, k1, k2, k3⟩ := exn_of g2 h2
      obtain ⟨u, A, l1, l2, l3⟩ := xlk_of k2 k3 el
      cases d with
      | none =>
        have k1 : us = [] := k1.2 rfl
        subst k1
        cases l1
      | some z => exact ⟨.ref a, g1, rfl, z, us, u, rfl, k1.1 z rfl, l1, q u H Fs A R Stp.refl l2 ⟨⟨_, _, ei⟩, l3⟩⟩
  · cases e
theorem fnVP {P : Program} {w : World} {mg : Str → Option Value} {b0 : Heap} {x qu : Str} {st : Stmt} {f : Addr} {fd : FuncData} {N ps : List Str} {k : Nat} {ro : Bool} {S : SF} {a : Addr} {c : Nat} {d : Option Addr} {oe : Obj} (F : Fun G.K x qu st f fd) (Sc : FnScope N ps (defScope st)) (hn : ps.length ≤ N.length)
    (hc : c ∈ cs) (hz : Zc (.ref (G.cls c)) d oe) (ec : ExcC G.K (G.cls c))
    (hb : ∀ (cd : Value) (A : Around) (ou : List PySem.Env) (s : Shared) (H : Hp) (E : XK), XHot (G.heat (a, c, d)) (cxH CX0 P w G.K mg b0 N qu (defScope st) f cd A ou s H E (a, oe)) cs → RoomH k (A.deeper (envOfC qu (defScope st) s.heap.objs.size f cd)) →
      VSs (G.heat (a, c, d)) (cxH CX0 P w G.K mg b0 N qu (defScope st) f cd A ou s H E (a, oe)) ro (defBody st) S) :
    TA.FnP (a, oe) P w G.K mg b0 (k + 1) f fd ps (spV (G.heat (a, c, d)) [] ro ps.length (callD S N.length [])) :=
  TA.okP F Sc spV_len fun cd A ou s H vs Q E hot hr h => ⟨_, hb cd A ou s H E ⟨rfl, (show (A.deeper (envOfC qu (defScope st) s.heap.objs.size f cd)).units + 70 < cLine by have := hr.un; omega), a, c, d, oe, hc, rfl, List.mem_singleton.mpr rfl, hot, hz, ec⟩ hr, post_call hn rfl h⟩
theorem ve_callP' (x : XHot G X cs) {k : Nat} {f : Addr} {fd : FuncData} {ps : List Str} {ro : Bool} {F : FD} {n : Str} {p pos : Pos} {e : Expr} {es : List Expr} {M : List Nat} {ks : List Kind} {l : LF}
    (F0 : ∀ a c d oe, c ∈ cs → G.hot = some (a, c, d) → Zc (.ref (G.cls c)) d oe → ExcC G.K (G.cls c) → TA.FnP (a, oe) X.prog X.w X.K X.mg X.base k f fd ps (spV G [] ro ps.length F)) (hr : RoomH k X.A) (hgl : Gl X n) (hm : X.mg n = some (.ref f)) (hkp : PySem.W.keepIn X.K (.ref f) = true)
    (hb : Binds X.K fd ps []) (ha : VL G X (e :: es) M ks l) (hk : ioKinds ks [] [] = true := by rfl) (hn : ks.length = ps.length := by rfl)
    (hdb : (n == ("__debug__" : Str)) = false := by decide) (he : starEach (e :: es) X.env = (false, eval e X.env) :: starEach es X.env := by rfl) (hpl : (backTo pos (starEach es X.env)).any (·.1) = false := by rfl) :
    VE G X (.Call (.Name n p) (e :: es) [] pos) (M ++ []) (kRet ro) (eCall F [] l) := by
  obtain ⟨a, c, d, oe, h1, h2, h3, h4, h5, h6⟩ := x.ex
  exact PE.imp (TA.pe_callP (F0 a c d oe h1 h2 h5 (by rw [← x.K]; exact h6)) hr h4 h3 hgl hm hkp hb ha hdb he hpl) fun σ H Q h => (call_of (E := E0) hk hn h).mono fun vs H1 q => by rw [List.append_nil]; exact q
theorem PIH.imp {tg e : Expr} {t t' : TI} (h : PIH X tg e t) (i : ∀ σ H Q, t' σ H Q → t σ H Q) : PIH X tg e t' := ⟨fun pins s σ H Q I q => h.run pins s σ H Q I (i σ H Q q)⟩
end
def sTry (cs : List Nat) (i : Nat) (b : SX) (h : SF) : SF := fun E => match b E with
  | some (.fin o) => some o
  | some (.exc c ns ds E') => if cs.contains c ∧ i < E'.length then (match h (E'.set i (some (.own, .exn c ns ds))) with
    | some (.nx E2) => if coolE (E2.set i none) then some (.nx (E2.set i none)) else none
    | some (.rt d E2) => if d.cool && coolE (E2.set i none) then some (.rt d (E2.set i none)) else none
    | _ => none) else none
  | none => none
section
variable {G : Gb} {X : Cx} {cs : List Nat} {ro : Bool}
theorem vs_try {cn n : Str} {cv : Value} {i : Nat} {body suite : List Stmt} {b₀ : Stmt} {np pos pos' : Pos} {b : SX} {h : SF} (x : XOk G X) (h0 : G.hot = none) (hs : X.stack = X.env :: X.outer) (hf : X.env.frame = some X.env.locals) (hN : X.N.Nodup) (hi : X.N[i]? = some n) (hln : X.env.kindOf n = some .local) (hc : Names X cn cv) (tk : L2N.Takes X (fun _ _ _ _ => False))
    (ec : ∀ c ∈ cs, ExcC G.K (G.cls c)) (em : ∀ c ∈ cs, PySem.W.exmOne G.K (.ref (G.cls c)) cv = some true)
    (hb : ∀ (W : WX) (pn : List (Addr × Obj)) (xe : Value → Shared → Prop), L2N.Takes (X.tr pn xe) W → PassesOwn (model X.prog X.w) X.A X.env xe → VXs G (X.tr pn xe) ro W body b)
    (hsu : ∀ (a : Addr) (c : Nat) (d : Option Addr) (oe : Obj) (pn : List (Addr × Obj)), c ∈ cs → XHot (G.heat (a, c, d)) (X.suite a ((a, oe) :: pn)) cs → VSs (G.heat (a, c, d)) (X.suite a ((a, oe) :: pn)) ro (b₀ :: suite) h) :
    VS G X ro (.Try body [.ExceptHandler (some (.Name cn np)) (some n) (b₀ :: suite) pos'] [] [] pos) (sTry cs i b h) := by
  refine PS.imp (L2N.ps_try_as (ts := fun a cls d => fun N σ H => ∃ c ∈ cs, cls = .ref (G.cls c) ∧ tVS (G.heat (a, c, d)) ro h N σ H) (Wout := fun _ _ _ _ => False) hs hf hN hi hln hc tk hb fun a oe cls d pn hz hv => ⟨fun pins s σ H N I q => ?_⟩) fun N σ H ⟨C, E, Fs, R, o, e, q⟩ => ?_
  · obtain ⟨c, hc, rfl, t⟩ := q
    obtain ⟨vs, hv⟩ := hv
    exact (hsu a c d oe pn hc ⟨x.K, x.un, a, c, d, oe, hc, rfl, List.mem_cons_self, ⟨rfl, vs, hv, hz.2.2 vs hv⟩, hz.zc, by rw [show (X.suite a ((a, oe) :: pn)).K = G.K from x.K]; exact ec c hc⟩).run pins s σ H N I t
  · unfold sTry at e
    cases e1 : b E with
    | none => rw [e1] at e; cases e
    | some o1 =>
      rw [e1] at e
      refine ⟨C, E, Fs, R, o1, e1, ?_⟩
      cases o1 with
      | fin o' =>
        cases e
        exact q
      | exc c ns ds E1 =>
        dsimp only at e
        split at e
        · rename_i hc
          obtain ⟨hc, hi1⟩ := hc
          have hcm : c ∈ cs := by simpa using hc
          intro σ1 H1 Fs1 dx F R1 ea nd kk
          refine ⟨true, by rw [x.K]; exact em c hcm, fun _ a na => ⟨c, hcm, rfl, C, E1.set i (some (.own, .exn c ns ds)), FsSet Fs1 i F, ?_, ?_⟩, fun z => by cases z⟩
          · refine Rel.set (R1.heat h0) hi1 ?_ (by decide) (fun _ => ⟨nd, fun b hb => (kk b hb).2.1⟩) (fun j m' d' hj ej _ b hb => (kk b hb).2.2 j ⟨m', d', ej⟩) (fun _ b hb => (kk b hb).1)
            obtain ⟨us, k1, k2, k3⟩ := ea
            unfold Rds
            exact ⟨a, dx, us, rfl, rfl, by cases dx <;> exact k1, k2, RdsL.heat h0 _ _ _ k3⟩
          · cases e2 : h (E1.set i (some (.own, .exn c ns ds))) with
            | none => rw [e2] at e; cases e
            | some o2 =>
              rw [e2] at e
              refine ⟨o2, rfl, ?_⟩
              cases o2 with
              | nx E2 =>
                dsimp only at e
                split at e
                · rename_i hcl
                  cases e
                  exact fun σ2 H2 Fs2 R2 => q _ H2 Fs2 ((R2.gone i).coolG hcl)
                · cases e
              | rt d2 E2 =>
                dsimp only at e
                split at e
                · rename_i hcl
                  rw [Bool.and_eq_true] at hcl
                  cases e
                  intro v σ2 H2 Fs2 F2 R2 r2 k2
                  refine q v _ H2 Fs2 F2 ((R2.gone i).coolG hcl.2) (Rds.coolG d2 v F2 hcl.1 r2) ⟨k2.1, fun b hb => ⟨(k2.2 b hb).1, fun j d' ej => ?_⟩⟩
                  by_cases hj : j = i
                  · subst hj
                    by_cases hl : j < E2.length
                    · rw [List.getElem?_set_self hl] at ej
                      cases ej
                    · rw [List.getElem?_eq_none (by rw [List.length_set]; omega)] at ej
                      cases ej
                  · rw [List.getElem?_set_ne (Ne.symm hj)] at ej
                    exact (k2.2 b hb).2 j d' ej
                · cases e
              | bk E2 => cases e
              | ct E2 => cases e
        · cases e
end
end
end VL
set_option maxHeartbeats 4000000
namespace VL
variable [LamT]
noncomputable section
open PySem PySem.Spec PyProof.Rows L2 L2H
def eJoin : List EF → EF
  | [], E => some (.any, E)
  | f :: fs, E => match f E with
    | some (.str s, E1) => if s.length ≤ 1000 then eJoin fs E1 else none
    | some (.int i, E1) => if decide (0 ≤ i ∧ i < 100) || sl (decide (i.natAbs < 10 ^ 40)) then eJoin fs E1 else none
    | _ => none
section
variable {G : Gb} {X : Cx}
inductive VJ (G : Gb) (X : Cx) : List Expr → List EF → List TE → Prop where
  | nil : VJ G X [] [] []
  | str {s : Str} {j p} {es : List Expr} {fs : List EF} {ts : List TE} (r : VJ G X es fs ts) : VJ G X (.Constant (.str s) j p :: es) (eC (.str s) :: fs) (tV G [] .own (eC (.str s)) :: ts)
  | fmt {e : Expr} {p : Pos} {k : Kind} {f : EF} {es : List Expr} {fs : List EF} {ts : List TE} (h : VE G X e [] k f) (r : VJ G X es fs ts) : VJ G X (.FormattedValue e (-1) none p :: es) (f :: fs) (tFmt (tV G [] k f) :: ts)
theorem VJ.pj {es : List Expr} {fs : List EF} {ts : List TE} (h : VJ G X es fs ts) : PJ X es ts := by
  induction h with
  | nil => exact .nil
  | str r ih => exact .cons ve_str ih
  | fmt h r ih => exact .cons (pe_fmt h) ih
theorem txt_int {i : Int} (h : (decide (0 ≤ i ∧ i < 100) || sl (decide (i.natAbs < 10 ^ 40))) = true) : ((toString i : String) : Str).length ≤ 1000 ∧ i.natAbs.log2 < 1920 := by
  have hi : i.natAbs < 10 ^ 40 := by
    rw [Bool.or_eq_true, decide_eq_true_iff] at h
    rcases h with h | h
    · exact Nat.lt_of_lt_of_le (show i.natAbs < 100 by omega) (by decide +kernel)
    · exact sl_iff.mp h
  refine ⟨?_, ?_⟩
  · rw [PySem.ofString_length]
    exact Nat.le_trans (int_text_length_le10 (k := 40) (by decide) hi) (by decide)
  · by_cases z : i.natAbs = 0
    · rw [z]; decide
    · exact (Nat.log2_lt z).mpr (Nat.lt_trans hi (by decide +kernel))
theorem join_of {C : Ctx} {σ : L2.St} {Q : Str → Hp → Prop} {es : List Expr} {fs : List EF} {ts : List TE} (h : VJ G X es fs ts) : ∀ (acc : Str) (H : Hp) (E : Env) (Fs : Nat → List Addr) (d : D) (E' : Env), acc.length + 1000 * fs.length ≤ 100000 → Rel G C H σ E Fs → eJoin fs E = some (d, E') →
    (∀ out H' Fs', Rel G C H' σ E' Fs' → Stp [] H H' E E' Fs Fs' → Q out H') → tJs ts acc σ H Q := by
  induction h with
  | nil =>
    intro acc H E Fs d E' hl R e q
    cases e
    exact q acc H Fs R Stp.refl
  | @str s j p es fs ts r ih =>
    intro acc H E Fs d E' hl R e q
    unfold eJoin at e
    simp only [eC] at e
    split at e
    · rename_i hs
      refine ⟨C, E, Fs, R, .str s, E, rfl, fun v H' Fs' F R' s' r' k' => ?_⟩
      obtain ⟨rfl, _⟩ := rds_str.mp r'
      have hz : (acc ++ s).length = acc.length + s.length := Str.length_append acc s
      rw [List.length_cons] at hl
      refine ⟨s, rfl, by rw [hz, sizeLine_eq]; omega, ih (acc ++ s) H' E Fs' d E' (by rw [hz]; omega) R' e fun out H2 Fs2 R2 s2 => q out H2 Fs2 R2 ((s'.trans s2).mono fun i hi => by simpa using hi)⟩
    · cases e
  | @fmt e0 p k f es fs ts h r ih =>
    intro acc H E Fs d E' hl R e q
    rw [List.length_cons] at hl
    unfold eJoin at e
    split at e
    · rename_i s E1 e1
      split at e
      · rename_i hs
        refine ⟨C, E, Fs, R, _, E1, e1, fun v H' Fs' F R' s' r' k' => ?_⟩
        obtain ⟨rfl, _⟩ := rds_str.mp r'
        have hz : (acc ++ s).length = acc.length + s.length := Str.length_append acc s
        refine .inl ⟨s, rfl, by rw [sizeLine_eq]; omega, s, rfl, by rw [hz, sizeLine_eq]; omega, ih (acc ++ s) H' E1 Fs' d E' (by rw [hz]; omega) R' e fun out H2 Fs2 R2 s2 => q out H2 Fs2 R2 ((s'.trans s2).mono fun i hi => by simpa using hi)⟩
      · cases e
    · rename_i i E1 e1
      split at e
      · rename_i hi
        refine ⟨C, E, Fs, R, _, E1, e1, fun v H' Fs' F R' s' r' k' => ?_⟩
        obtain ⟨rfl, _⟩ := rds_int.mp r'
        obtain ⟨t1, t2⟩ := txt_int hi
        have hz := Str.length_append acc ((toString i : String) : Str)
        refine .inr ⟨i, rfl, t2, _, rfl, by rw [hz, sizeLine_eq]; omega, ih _ H' E1 Fs' d E' (by rw [hz]; omega) R' e fun out H2 Fs2 R2 s2 => q out H2 Fs2 R2 ((s'.trans s2).mono fun i hi => by simpa using hi)⟩
      · cases e
    · cases e
theorem eJoin_any : ∀ {fs : List EF} {E : Env} {d : D} {E' : Env}, eJoin fs E = some (d, E') → d = .any
  | [], E, d, E', e => by cases e; rfl
  | f :: fs, E, d, E', e => by
    unfold eJoin at e
    split at e
    · split at e
      · exact eJoin_any e
      · cases e
    · split at e
      · exact eJoin_any e
      · cases e
    · cases e
theorem ve_join {v1 v2 : Expr} {rest : List Expr} {fs : List EF} {ts : List TE} {pos : Pos} (h : VJ G X (v1 :: v2 :: rest) fs ts) (hl : fs.length ≤ 50 := by decide) : VE G X (.JoinedStr (v1 :: v2 :: rest) pos) [] .own (eJoin fs) :=
  PE.imp (pe_joined h.pj) fun σ H Q ⟨C, E, Fs, R, d, E', e, q⟩ => by
    have hd := eJoin_any e
    subst hd
    exact join_of h Str.empty H E Fs .any E' (by have : Str.empty.length = 0 := rfl; omega) R e fun out H' Fs' R' s' => q _ H' Fs' [] R' s' (by unfold Rds; rfl) ⟨List.nodup_nil, fun a ha => by cases ha⟩
theorem takes_never {X : Cx} : L2N.Takes X (fun _ _ _ _ => False) := fun _ _ z => by
  obtain ⟨_, _, _, _, _, _, _, _, _, _, _, _, _, _, _, _, z⟩ := z
  exact z.elim
theorem room_mark {k : Nat} {A : Around} (r : Room k A) (h : Option Value) : RoomH k (A.mark h) := ⟨r.dp, r.un⟩
theorem XOk.tr (x : XOk G X) {pn : List (Addr × Obj)} {xe : Value → Shared → Prop} : XOk G (X.tr pn xe) := ⟨x.K, x.calm, x.un⟩
end
end
end VL
set_option maxHeartbeats 4000000
namespace VL
noncomputable section
open PySem PySem.Spec PyProof.Rows L2 L2H
open GxR (TabB Tabbed)
variable [LamT]
section
variable {G : Gb} {H : Hp} {a : Addr} {φ : Heap → Prop}
theorem SqT.del {K : PySem.W.Frag} (h : H a = some (.ext φ)) {b : Addr} {xs : List V} (q : SqT K H b xs) : SqT K (L2.del H a) b xs := by
  have ne : ∀ o, H b = some o → (∀ ψ, o ≠ .ext ψ) → b ≠ a := fun o e n z => by
    rw [z, h] at e
    cases e
    exact n φ rfl
  rcases q with (q | ⟨o, q⟩) | q
  · exact .inl (.inl (by rw [del_ne (ne _ q fun ψ z => by cases z)]; exact q))
  · exact .inl (.inr ⟨o, by rw [del_ne (ne _ q fun ψ z => by cases z)]; exact q⟩)
  · exact .inr q
mutual
theorem Rds.del (h : H a = some (.ext φ)) : ∀ (d : D) (v : V) (F : List Addr), Rds G H d v F → Rds G (L2.del H a) d v F
  | .non, _, _, q => by unfold Rds at q ⊢; exact q
  | .bl _, _, _, q => by unfold Rds at q ⊢; exact q
  | .int _, _, _, q => by unfold Rds at q ⊢; exact q
  | .str _, _, _, q => by unfold Rds at q ⊢; exact q
  | .tup ds, v, F, q => by
    unfold Rds at q ⊢
    obtain ⟨b, xs, h1, h2, h3⟩ := q
    exact ⟨b, xs, h1, SqT.del h h2, RdsL.del h ds xs F h3⟩
  | .lst ds, v, F, q => by
    unfold Rds at q ⊢
    obtain ⟨b, xs, A, h1, h2, h3, h4⟩ := q
    exact ⟨b, xs, A, h1, by rw [del_ne (fun z => by rw [z, h] at h2; cases h2)]; exact h2, RdsL.del h ds xs A h3, h4⟩
  | .dct ks ds, v, F, q => by
    unfold Rds at q ⊢
    obtain ⟨b, us, A, h1, h2, h3, h4, h5⟩ := q
    exact ⟨b, us, A, h1, by rw [del_ne (fun z => by rw [z, h] at h2; cases h2)]; exact h2, h3, RdsL.del h ds _ A h4, h5⟩
  | .obj k ns ds, v, F, q => by
    unfold Rds at q ⊢
    obtain ⟨b, dx, us, A, h1, h2, h3, h4, h5⟩ := q
    exact ⟨b, dx, us, A, h1, by rw [del_ne (fun z => by rw [z, h] at h2; cases h2)]; exact h2, h3, RdsL.del h ds _ A h4, h5⟩
  | .scr ns, v, F, q => by
    unfold Rds at q ⊢
    obtain ⟨b, h1, h2, h3⟩ := q
    refine ⟨b, h1, ?_, h3⟩
    rcases h2 with ⟨o, h2⟩ | h2
    · exact .inl ⟨o, by rw [del_ne (fun z => by rw [z, h] at h2; cases h2)]; exact h2⟩
    · exact .inr h2
  | .any, _, _, q => by unfold Rds at q ⊢; exact q
  | .exn c ns ds, v, F, q => by
    unfold Rds at q ⊢
    obtain ⟨b, dx, us, h1, h2, h3, h4, h5⟩ := q
    refine ⟨b, dx, us, h1, h2, ?_, h4, RdsL.del h ds _ F h5⟩
    cases dx with
    | none => exact h3
    | some x =>
      have h3 : H x = some (.xd us) := h3
      show L2.del H a x = some (.xd us)
      rw [del_ne (fun z => by rw [z, h] at h3; cases h3)]
      exact h3
theorem RdsL.del (h : H a = some (.ext φ)) : ∀ (ds : List D) (vs : List V) (F : List Addr), RdsL G H ds vs F → RdsL G (L2.del H a) ds vs F
  | [], _, _, q => by unfold RdsL at q ⊢; exact q
  | d :: ds, vs, F, q => by
    unfold RdsL at q ⊢
    obtain ⟨x, r, A, B, h1, h2, h3, h4⟩ := q
    exact ⟨x, r, A, B, h1, h2, Rds.del h d x A h3, RdsL.del h ds r B h4⟩
end
end
abbrev FI := List D → Option D
def spI (G : Gb) (C : Addr) (n : Str) (m : Nat) (F : FI) : Sp := fun vs H Q _ => ∃ a ws ds FA, vs = V.ref a :: ws ∧ H a = some (exo a C none) ∧ vs.length = m ∧ ArgIn G H [] (.any :: ds) vs FA ∧ (∀ T ∈ G.tabs, TabG H T) ∧ ∃ d, F ds = some d ∧
  ∀ v H' A, Rds G H' d v A → A.Nodup → (∀ b ∈ A, H b = none) → Chg No H H' → ∀ dx, H' dx = none → dx ≠ a → Q .non (upd (upd H' dx (exd dx [(n, v)])) a (exo a C (some dx)))
theorem spI_len {G : Gb} {C : Addr} {n : Str} {m : Nat} {F : FI} : ∀ vs H Q E, spI G C n m F vs H Q E → vs.length = m := fun vs H Q E ⟨_, _, _, _, _, _, h, _⟩ => h
def initD (f1 f : EF) (N : Nat) : FI := fun ds => match f1 (startE N [] (.any :: ds)) with
  | some (_, E1) => (match f E1 with
    | some (d, _) => some d
    | none => none)
  | none => none
section
variable {P : Program} {w : World} {G : Gb} {mg : Str → Option Value} {b0 : Heap}
theorem Chg.ext {H H' : Hp} (c : Chg No H H') {q : Addr} {φ : Heap → Prop} (e : H q = some (.ext φ)) : H' q = some (.ext φ) := by
  rcases c q _ e with h | ⟨⟨ps, z⟩, _⟩ | ⟨z, _⟩
  · exact h
  · cases z
  · exact z.elim
theorem post_init {X : Cx} {C : Addr} {n : Str} {m : Nat} {f1 f : EF} {k1 k : Kind} {N : List Str} {vs : List V} {H : Hp} {Q : VK} {E : XK} {to : Expr} (hK : X.K = G.K) (T : OexC X.K C) (hno : PySem.W.findIn X.K (.ref C) n = some none) (hm : m ≤ N.length) (h0 : 0 < m)
    (h : spI G C n m (initD f1 f N.length) vs H Q E) :
    ∃ a ws, vs = .ref a :: ws ∧ H a = some (exo a C none) ∧ tVL G [] [k1] (lCons f1 lNil) (start N vs) H fun us H1 => us.length ≤ 1000 ∧ H1 a = some (exo a C none) ∧ tOst X.K n (tVar 0) (tV G [] .own f) { nx := fun _ H' => Q .non H', rt := Q } (start N vs) H1 := by
  obtain ⟨a, ws, ds, FA, rfl, ea, hl, ai, tb, d, eF, q⟩ := h
  refine ⟨a, ws, rfl, ea, ?_⟩
  have hds : (D.any :: ds).length = m := by rw [← ai.len]; exact hl
  let C0 : Ctx := ⟨H, fun i a => False, fun _ => False, H, fun j => .non⟩
  have R : Rel G C0 H (start N (.ref a :: ws)) (startE N.length [] (.any :: ds)) FA := by
    refine ⟨?_, fun i m' d' e => ?_, fun i m' d' e hw => ?_, fun i m' d' e => ?_, Chg.refl _ _, Chg.refl _ _, fun q z => z.elim, tb⟩
    · rw [startE_len (by omega)]
      unfold L2.start
      rw [List.length_append, List.length_map, List.length_replicate, hl]
      omega
    · obtain ⟨h1, h2⟩ := startE_get e
      obtain ⟨v, h3, h4⟩ := ai.rd i d' h1
      refine ⟨v, ?_, h4, fun z => ?_⟩
      · unfold L2.start
        rw [List.getElem?_append_left (by rw [List.length_map]; exact (List.getElem?_eq_some_iff.mp h3).1), List.getElem?_map, h3]
        rfl
      · rcases h2 with ⟨_, h2⟩ | h2
        · cases h2
        · rw [h2] at z
          cases z
    · obtain ⟨h1, h2⟩ := startE_get e
      rcases h2 with ⟨rfl, h2⟩ | rfl
      · cases h2
      · cases hw
    · obtain ⟨h1, h2⟩ := startE_get e
      rcases h2 with ⟨rfl, h2⟩ | rfl
      · cases h2
      · exact ⟨fun z => (by cases z), fun z => (by cases z)⟩
  unfold initD at eF
  split at eF
  · rename_i d1 E1 e1
    split at eF
    · rename_i d2 E2 e2
      cases eF
      refine ⟨C0, _, FA, R, [d1], E1, by unfold lCons lNil; rw [e1], fun us H1 Fs1 FF R1 s1 a1 => ?_⟩
      have c1 : Chg No H H1 := s1.chg.mono fun q o _ ⟨i, hi, _⟩ => by cases hi
      obtain ⟨l1, l2, l3, _⟩ := a1.all
      have l2' : us.length = 1 := l2
      refine ⟨by omega, c1.ext ea, C0, E1, Fs1, R1, d, E2, e2, fun v H2 Fs2 F R2 s2 r2 k2 => ⟨.ref a, ?_, a, C, rfl, T, hno, ?_⟩⟩
      · unfold L2.start
        rfl
      · have c2 : Chg No H1 H2 := s2.chg.mono fun q o _ ⟨i, hi, _⟩ => by cases hi
        have c3 : Chg No H H2 := (c1.trans c2).mono fun _ _ _ z => z.elim id id
        refine .inl ⟨c3.ext ea, fun dx hd hne => q v H2 F r2 k2.1 (fun b hb => ?_) c3 dx hd hne⟩
        rcases k2.2 b hb with ⟨i, hi, _⟩ | z
        · cases hi
        · exact c1.back z.1
    · cases eF
  · cases eF
end
def xRzI (c : Nat) (n : Str) (F : FI) (l : LF) : SX := fun E => match l E with
  | some (ds, E') => (match F ds with
    | some d => some (.exc c [n] [d] E')
    | none => none)
  | none => none
section
variable {G : Gb} {X : Cx} {W : WX} {ro : Bool}
theorem vx_raiseI {c k : Nat} {cn n : Str} {fI : Addr} {fd : FuncData} {ps : List Str} {F : FI} {e : Expr} {es : List Expr} {M : List Nat} {ks : List Kind} {l : LF} {p pos2 pos : Pos} (x : XOk G X) (tk : L2N.Takes X W) (T : OexC X.K (G.cls c)) (iC : PySem.W.findIn X.K (.ref (G.cls c)) "__init__" = some (some (.ref fI))) (tI : PySem.W.typeIn X.K (.ref fI) = some (.type "function"))
    (F1 : FnOk X.prog X.w X.K X.mg X.base CX0 k fI fd ps (spI G (G.cls c) n ps.length F)) (hr : Room (k + 1) X.A) (hb : Binds X.K fd ps []) (hg : Gl X cn) (hm : X.mg cn = some (.ref (G.cls c))) (ha : VL G X (e :: es) M ks l) (hn : ks.length + 1 = ps.length := by rfl) (hks : ks.length ≤ 900 := by decide)
    (hdb : (cn == ("__debug__" : Str)) = false := by decide) (he : starEach (e :: es) X.env = (false, eval e X.env) :: starEach es X.env := by rfl) (hpl : (backTo pos2 (starEach es X.env)).any (·.1) = false := by rfl) :
    VX G X ro W (.Raise (some (.Call (.Name cn p) (e :: es) [] pos2)) none pos) (xRzI c n F l) :=
  PS.imp (L2N.ps_raise x.calm tk (TA.pmk_oexN T iC tI F1 hr hb pass0 hg hm ha hdb he hpl)) fun N σ H ⟨C, E, Fs, R, o, eo, q⟩ => by
    unfold xRzI at eo
    split at eo
    · rename_i ds E1 e1
      split at eo
      · rename_i d eF
        cases eo
        refine ⟨C, E, Fs, R, ds, E1, e1, fun vs H1 Fs1 FF R1 s1 a1 => ?_⟩
        obtain ⟨l1, l2, l3, all⟩ := a1.all
        refine ⟨by omega, fun a na => ?_⟩
        have fa : ∀ {j : Nat} {F' : List Addr}, FF[j]? = some F' → (FF[j]?).getD [] = F' := fun {j F'} e => by rw [e]; rfl
        have cA : Chg No H1 (upd H1 a (exo a (G.cls c) none)) := Chg.new na
        have tr1 : ∀ {i m d b}, E1[i]? = some (some (m, d)) → b ∈ Fs1 i → ∃ o, H1 b = some o := fun {i m d b} e hb => by
          obtain ⟨v, _, r, _⟩ := R1.rd i m d e
          obtain ⟨o, eo, _⟩ := Rds.trk d v _ r b hb
          exact ⟨o, eo⟩
        have ai : ArgIn G (upd H1 a (exo a (G.cls c) none)) [] (.any :: ds) (V.ref a :: vs) (fun j => match j with
          | 0 => []
          | j + 1 => (FF[j]?).getD []) := ⟨by simp [l1, l2], fun j dj ej => by
            cases j with
            | zero =>
              cases ej
              exact ⟨.ref a, rfl, by unfold Rds; rfl⟩
            | succ j =>
              rw [List.getElem?_cons_succ] at ej
              have hj : j < ks.length := by rw [← l1]; exact (List.getElem?_eq_some_iff.mp ej).1
              obtain ⟨dd, v, F', h1, h2, h3, h4, _⟩ := all j _ (List.getElem?_eq_getElem hj)
              rw [ej] at h1
              cases h1
              refine ⟨v, h2, ?_⟩
              show Rds G _ dj v ((FF[j]?).getD [])
              rw [fa h3]
              exact Rds.chg cA _ _ _ (fun _ _ z => z) h4, fun j hj => by cases hj⟩
        rw [List.append_nil]
        refine ⟨a, vs, ds, _, rfl, upd_same, by rw [List.length_cons, l2]; exact hn, ai, fun T hT => cA.tab (R1.tb T hT), d, eF, fun v H' A rA ndA nwA cH dx ndx hne => ?_⟩
        have eA : H' a = some (exo a (G.cls c) none) := cH.ext upd_same
        have n1 : H1 dx = none := by
          have z := cH.back ndx
          rw [upd_ne hne] at z
          exact z
        refine ⟨rfl, dx, [(n, v)], upd_same, by rw [upd_ne hne]; exact upd_same, n1, ?_⟩
        have eqH : upd (L2.del (upd (upd H' dx (exd dx [(n, v)])) a (exo a (G.cls c) (some dx))) a) dx (.xd [(n, v)]) = upd (L2.del H' a) dx (.xd [(n, v)]) := by
          funext b
          by_cases hb : b = dx
          · rw [hb, upd_same, upd_same]
          · rw [upd_ne hb, upd_ne hb]
            by_cases hba : b = a
            · rw [hba, del_same, del_same]
            · rw [del_ne hba, del_ne hba, upd_ne hba, upd_ne hb]
        rw [eqH]
        have nD : (L2.del H' a) dx = none := by rw [del_ne hne]; exact ndx
        have cF : Chg No H1 (upd (L2.del H' a) dx (.xd [(n, v)])) := fun b ob eb => by
          have ba : b ≠ a := fun z => by rw [z, na] at eb; cases eb
          have bd : b ≠ dx := fun z => by rw [z, n1] at eb; cases eb
          have eb' : (upd H1 a (exo a (G.cls c) none)) b = some ob := by rw [upd_ne ba]; exact eb
          have same : (upd (L2.del H' a) dx (.xd [(n, v)])) b = H' b := by rw [upd_ne bd, del_ne ba]
          rcases cH b ob eb' with z | ⟨ps, ⟨⟨qs, z1, z2⟩, zl⟩⟩ | ⟨z, _⟩
          · exact .inl (by rw [same]; exact z)
          · refine .inr (.inl ⟨ps, ⟨qs, by rw [same]; exact z1, z2⟩, fun l => ?_⟩)
            obtain ⟨qs', y1, y2, y3⟩ := zl l
            refine ⟨qs', by rw [same]; exact y1, y2, fun pos cv hc => ?_⟩
            obtain ⟨x, oc, vs', nm', t', w1, w2, w3⟩ := y3 pos cv hc
            refine ⟨x, oc, vs', nm', t', w1, ?_, w3⟩
            rw [upd_ne (fun z => by rw [z, ndx] at w2; cases w2), del_ne (fun z => by rw [z, eA] at w2; cases w2)]
            exact w2
          · exact z.elim
        have nA : ∀ b ∈ A, H1 b = none := fun b hb => by
          have z := nwA b hb
          by_cases hba : b = a
          · rw [hba]; exact na
          · rw [upd_ne hba] at z
            exact z
        refine q σ _ Fs1 (some dx) A (R1.chg cF) ⟨[(n, v)], upd_same, rfl, ?_⟩ ndA fun b hb => ⟨(R1.hn b (nA b hb)).1, (R1.hn b (nA b hb)).2, fun i ⟨m, d2, ei⟩ hm => ?_⟩
        · have r1 := Rds.chg (Chg.new (u := .xd [(n, v)]) nD) d v A (fun _ _ z => z) (Rds.del eA d v A rA)
          exact rdsL_cons.mpr ⟨v, [], A, [], rfl, by simp, r1, rdsL_nil.mpr ⟨rfl, rfl⟩⟩
        · obtain ⟨o, eo⟩ := tr1 ei hm
          rw [nA b hb] at eo
          cases eo
      · cases eo
    · cases eo
end
end
end VL
set_option maxHeartbeats 4000000
namespace TA
open PySem PySem.Spec PyProof.Rows L2 L2H HotX
def EnmSt (z j a : Addr) (i : Nat) (h : Heap) : Prop := (∃ b, IsEnum h z j (i : Int) b) ∧ h.IsListIter j a i ∧ z ≠ j
theorem two2 {z j c : Addr} (h : c ∈ [z, j]) : c = z ∨ c = j := by simpa using h
theorem EnmSt.obj {z j a : Addr} {i : Nat} {h : Heap} (st : EnmSt z j a i h) {c : Addr} (hc : c ∈ [z, j]) : ∃ o, h.get? c = some o ∧ ∀ v, o.data ≠ .cell v := by
  obtain ⟨⟨b, s1⟩, ⟨o4, g4, _, d4⟩, _⟩ := st
  rcases two2 hc with rfl | rfl
  · exact ⟨_, s1, fun v e => nomatch e⟩
  · exact ⟨o4, g4, fun v e => (by rw [d4] at e; cases e)⟩
end TA
namespace VL
noncomputable section
open PySem PySem.Spec PyProof.Rows L2
open GxR (TabB Tabbed)
variable [LamT]
structure OInit (P : Program) (K : PySem.W.Frag) (mg : Str → Option Value) (C : Addr) (qu : Str) (st : Stmt) (f : Addr) (fd : FuncData) : Prop where
  ex : ∃ (cd cc : Addr) (dV kV dc pm ct oc : Value) (an od : Option Addr) (sl : Array (Option Value)), fd = PySem.W.ksFn "__init__" qu (defArgs st) (defBody st) (defScope st) dV kV dc pm an (.ref cd) ct cc ∧ K.lookup f = some ⟨oc, od, .func fd, sl⟩ ∧ PySem.W.codeIn K (.ref cd) qu = true ∧ TA.SupC P K mg C cc cd
  it : PySem.W.findIn K (.ref C) "__init__" = some (some (.ref f))
  ty : PySem.W.typeIn K (.ref f) = some (.type "function")
theorem binds_init {K : PySem.W.Frag} {fd : FuncData} {ps : List Str} (h : ∀ us : List Value, us.length = ps.length → bindArgs fd ⟨us, []⟩ = pure (ps.zip us)) : Binds K fd ps [] := .all h
def xRz0 (c : Nat) : SX := fun E => some (.exc c [] [] E)
end
end VL
set_option maxHeartbeats 4000000
namespace VL
open PySem PySem.Spec PyProof.Rows L2
variable [LamT]
end VL
set_option maxHeartbeats 4000000
namespace VL
open PySem PySem.Spec PyProof.Rows L2
variable [LamT]
end VL
set_option maxHeartbeats 4000000
namespace VL
open PySem PySem.Spec PyProof.Rows L2
variable [LamT]
end VL
set_option maxHeartbeats 4000000
namespace VL
open PySem PySem.Spec PyProof.Rows L2
open GxR (TabB Tabbed)
variable [LamT]
end VL
set_option maxHeartbeats 4000000
namespace VL
open PySem PySem.Spec PyProof.Rows L2
open GxR (TabB Tabbed)
variable [LamT]
end VL
set_option maxHeartbeats 4000000
namespace VL
open PySem PySem.Spec PyProof.Rows L2
open GxR (TabB Tabbed)
variable [LamT]
end VL
set_option maxHeartbeats 4000000
namespace VL
open PySem PySem.Spec PyProof.Rows L2
open GxR (TabB Tabbed)
variable [LamT]
end VL
set_option maxHeartbeats 4000000
namespace VL
open PySem PySem.Spec PyProof.Rows L2
open GxR (TabB Tabbed)
variable [LamT]
end VL
set_option maxHeartbeats 4000000
namespace VL
noncomputable section
open PySem PySem.Spec PyProof.Rows L2
open GxR (TabB Tabbed)
variable [LamT]
end
end VL
set_option maxHeartbeats 4000000
namespace VL
noncomputable section
open PySem PySem.Spec PyProof.Rows L2
open GxR (TabB Tabbed)
variable [LamT]
theorem depth_ints : ∀ xs : List Int, PyData.depthAll (xs.map .int) ≤ 1
  | [] => by simp [PyData.depthAll]
  | x :: xs => by
    have := depth_ints xs
    simp [PyData.depthAll, PyData.depth]
    omega
end
end VL
set_option maxHeartbeats 4000000
namespace VL
noncomputable section
open PySem PySem.Spec PyProof.Rows L2
open GxR (TabB Tabbed)
variable [LamT]
end
end VL
set_option maxHeartbeats 4000000
namespace VL
noncomputable section
open PySem PySem.Spec PyProof.Rows L2
open GxR (TabB Tabbed)
variable [LamT]
section
variable {G : Gb} {X : Cx}
variable {k : Nat} {f : Addr} {fd : FuncData} {ps : List Str} {ro : Bool} {F : FD} {x : Str} {p pos pos1 pos2 pos3 : Pos} {en en2 e1 e2 : Expr} {i a b : Nat}
end
end
end VL
set_option maxHeartbeats 4000000
namespace VL
noncomputable section
open PySem PySem.Spec PyProof.Rows L2
open GxR (TabB Tabbed)
variable [LamT]
end
end VL
namespace VL
open PySem PySem.Spec PyProof.Rows L2
open GxR (TabB Tabbed)
variable [LamT]
noncomputable section
end
end VL
set_option maxHeartbeats 4000000
namespace VL
open PySem PySem.Spec PyProof.Rows L2
open GxR (TabB Tabbed)
variable [LamT]
noncomputable section
end
end VL
set_option maxHeartbeats 4000000
namespace VL
noncomputable section
open PySem PySem.Spec PyProof.Rows L2
open GxR (TabB Tabbed)
variable [LamT]
section
variable {G : Gb} {X : Cx} {σ : L2.St} {H : Hp} {Q : VK}
variable {scope : Scope} {own : List (Str × Nat)} {pos q p1 p2 p3 p4 : Pos} {x y : Str} {c1 : Nat}
end
end
end VL
set_option maxHeartbeats 4000000
namespace VL
noncomputable section
open PySem PySem.Spec PyProof.Rows L2
open GxR (TabB Tabbed)
variable [LamT]
def pSliceA (lo hi : Option Int) : List D → Option D
  | [.tup ds] => some (.tup (cutD ds lo hi))
  | ds => pSlice lo hi ds
theorem pSliceA_tup (lo hi : Option Int) (ds : List D) : pSliceA lo hi [.tup ds] = some (.tup (cutD ds lo hi)) := rfl
theorem pSliceA_lst (lo hi : Option Int) (ds : List D) : pSliceA lo hi [.lst ds] = some (.lst (cutD ds lo hi)) := rfl
def eSliceA (f : EF) (lo hi : OF) : EF := fun E => match f E with
  | some (d, E1) => (match lo E1 with
    | some (l, E2) => (match hi E2 with
      | some (u, E3) => (match pSliceA l u [d] with
        | some r => some (r, E3)
        | none => none)
      | none => none)
    | none => none)
  | none => none
theorem eSliceA_ap (f : EF) (lo hi : OF) (E : Env) : eSliceA f lo hi E = (match f E with
  | some (d, E1) => (match lo E1 with
    | some (l, E2) => (match hi E2 with
      | some (u, E3) => (match pSliceA l u [d] with
        | some r => some (r, E3)
        | none => none)
      | none => none)
    | none => none)
  | none => none) := rfl
section
variable {G : Gb} {X : Cx}
abbrev rSlAll2 (K : PySem.W.Frag) : V → Option Int → Option Int → Hp → VK → Prop := fun x lo hi H Q => rSlAll K x lo hi H Q ∨ rSlA K x lo hi H Q
theorem sl_all2 : SlR X (rSlAll2 X.K) := sl_all.or sl_tupA
theorem prim_sliceA (hK : X.K = G.K) (lo hi : Option Int) : PrimV G (fun vs H Q => ∃ x, vs = [x] ∧ rSlAll2 X.K x lo hi H Q) (pSliceA lo hi) := fun H vs ds F Q d tb r e q => by
  unfold pSliceA at e
  split at e
  · rename_i xs
    cases e
    rw [hK]
    obtain ⟨x, rfl, h1⟩ := rdsL1 r
    obtain ⟨a, us, rfl, h3, h4⟩ := rds_tup.mp h1
    have hl := rdsL_len h4
    refine ⟨_, rfl, .inr ⟨a, us, rfl, h3, fun hw => ?_, fun hw p np => ?_⟩⟩
    · have ec : cutD xs lo hi = xs := by
        unfold cutD
        rw [hl] at hw
        rw [hw.1, hw.2, List.drop_zero, Nat.sub_zero, List.take_length]
      rw [ec] at q
      exact q _ H F (rds_tup.mpr ⟨a, us, rfl, h3, h4⟩) id (fun z hz => .inl hz) (fun z t n => by cases n) (Chg.refl _ _)
    · obtain ⟨B, h5, h6⟩ := rdsL_cut lo hi h4
      have c : Chg No H (upd H p (.tup (cutV us lo hi))) := Chg.new np
      exact q _ _ B (rds_tup.mpr ⟨p, _, rfl, SqT.of upd_same, RdsL.chg c _ _ _ (fun _ _ z => z) h5⟩) (fun nd => h6.nodup nd) (fun z hz => .inl (h6.subset hz)) (fun z t n => by cases n) c
  · obtain ⟨x, ex, h⟩ := prim_slice (G := G) hK lo hi H vs ds F Q d tb r e q
    exact ⟨x, ex, .inl h⟩
theorem ve_sliceA (x : XOk G X) {e : Expr} {lo hi : Option Expr} {M M1 M2 : List Nat} {k : Kind} {f : EF} {fl fh : OF} {p2 pos : Pos} (he : VE G X e M k f) (hl : VO G X lo M1 fl) (hh : VO G X hi M2 fh) (s1 : k.safe M1 = true := by rfl) (s2 : k.safe M2 = true := by rfl) :
    VE G X (.Subscript e (.Slice lo hi none p2) pos) (M ++ (M1 ++ M2)) (kTop [k]) (eSliceA f fl fh) := PE.imp (pe_slice sl_all2 he hl hh) fun σ H Q ⟨C, E, Fs, R, d, E', e, q⟩ => by
  unfold eSliceA at e
  split at e
  · rename_i d1 E1 e1
    split at e
    · rename_i l E2 e2
      split at e
      · rename_i u E3 e3
        split at e
        · rename_i r e4
          cases e
          refine ⟨C, E, Fs, R, d1, E1, e1, fun v H1 Fs1 F R1 st1 r1 k1 => ⟨C, E1, Fs1, R1, l, E2, e2, fun H2 Fs2 R2 st2 => ⟨C, E2, Fs2, R2, u, _, e3, fun H3 Fs3 R3 st3 => ?_⟩⟩⟩
          obtain ⟨r2, k2⟩ := k1.step R1 r1 st2 s1
          obtain ⟨r3, k3⟩ := k2.step R2 r2 st3 s2
          have st := st1.trans (st2.trans st3)
          obtain ⟨x', ex, qq⟩ := fin_top (ks := [k]) (FF := [F]) (prim_sliceA (G := G) x.K l u) R3 st ⟨d1, [], v, [], F, [], rfl, rfl, rfl, r3, k3, fun j B hB => by simp at hB, rfl, rfl, rfl⟩ e4 q
          cases ex
          exact qq
        · cases e
      · cases e
    · cases e
  · cases e
end
end
end VL
set_option maxHeartbeats 4000000
namespace TA
open PySem PySem.Spec PyProof.Rows L2 RZ
def ItB (b : Bool) (h : Heap) (it l : Addr) (i : Nat) : Prop := if b then h.IsTupleIter it l i else h.IsListIter it l i
theorem ItB.ex {b : Bool} {h : Heap} {it l : Addr} {i : Nat} (x : ItB b h it l i) : ∃ o, h.get? it = some o ∧ ∃ vs, o.data = .fields vs := by
  cases b <;> (obtain ⟨o, e, _, d⟩ := x; exact ⟨o, e, _, d⟩)
theorem ItB.at {b : Bool} {h h' : Heap} {it l : Addr} {i : Nat} (x : ItB b h it l i) (k : ∀ o, h.get? it = some o → h'.get? it = some o) : ItB b h' it l i := by
  cases b <;> (obtain ⟨o, e, r⟩ := x; exact ⟨o, k o e, r⟩)
end TA
set_option maxHeartbeats 4000000
namespace VL
noncomputable section
open PySem PySem.Spec PyProof.Rows L2
open GxR (TabB Tabbed)
variable [LamT]
section
variable {G : Gb} {X : Cx} {tg e e2 e3 : Expr} {M M' M2 : List Nat} {k k' k2 : Kind} {f g h : EF}
theorem PI.ex {α : Type} {t : α → TI} (h : ∀ b, PI X tg e (t b)) : PI X tg e (fun σ H R => ∃ b, t b σ H R) := ⟨fun pins s σ H R I ⟨b, q⟩ => (h b).run pins s σ H R I q⟩
end
end
end VL
set_option maxHeartbeats 4000000
namespace VL
noncomputable section
open PySem PySem.Spec PyProof.Rows L2
open GxR (TabB Tabbed)
variable [LamT]
inductive RQ where
  | v (i : Nat) | p (i a : Nat)
def RQ.rd (E : Env) : RQ → Option D
  | .v i => match E[i]? with
    | some (some (.own, d)) => some d
    | _ => none
  | .p i a => match E[i]? with
    | some (some (.own, .tup ds)) => ds[a]?
    | _ => none
def RQ.apart : RQ → RQ → Bool
  | .p i a, .p j b => i != j || a != b
  | .p i _, .v j => i != j
  | .v i, .p j _ => i != j
  | .v i, .v j => i != j
end
end VL
set_option maxHeartbeats 4000000
local macro_rules | `(tactic| simp! [$ts,*]) => `(tactic| simp [VL.sl_eq, VL.callD_ap, VL.startE, VL.sSeq_ap, VL.sIf_ap, VL.sSet_ap, VL.sRet_ap, VL.sRetN_ap, VL.sRetT_ap, VL.retTs, VL.sDrop_ap, VL.sAsg_ap, VL.sAug_ap, VL.sCat_ap, VL.sMv_ap, VL.sAugIt_ap, VL.eChain_ap, VL.sNever, VL.sPar2_ap, VL.sFor_ap, VL.sNext_ap, VL.sSetIt_ap, VL.sPairSet_ap, VL.gSetIt_ap, VL.eVar_ap, VL.eC_ap, VL.ePrim_ap, VL.lCons_ap, VL.lNil_ap, VL.lRef_ap, VL.eOwn_ap, VL.eCall_ap, VL.eCallP_ap, VL.ioW, VL.setIO, VL.setD, VL.ioOut, VL.ioGet, VL.toT_ap, VL.toTr_ap, VL.tfAnd_ap, VL.tfOr_ap, VL.tfNot_ap, VL.tYesF_ap, VL.eIf_ap, VL.eAnd_ap, VL.eOr_ap, VL.eNot_ap, VL.eMut_ap, VL.pName_ap, VL.pSub1_ap, VL.hasP, VL.hasT, VL.tyD, VL.storL, VL.storable, VL.getP, VL.setP, VL.opApp, VL.opIns, VL.opPop, VL.opClear, VL.opExt, VL.opSet, VL.putE, VL.putV, VL.freeze, VL.frz1, VL.newAll, VL.allNew, VL.Mode.frz, VL.Mode.w, VL.Mode.new, VL.retOk, VL.D.atom, VL.D.atomL, VL.D.flat, VL.D.tru, VL.D.node, VL.D.items, VL.D.isNon, VL.gSet_ap, VL.gsNil, VL.gsCons, VL.gTupE, VL.gSeqE, VL.bindN, VL.putP, VL.iSeq_ap, VL.iRg_ap, VL.iEnm_ap, VL.iZip2_ap, VL.rg1_ap, VL.rg2_ap, VL.eListRg_ap, VL.oNone_ap, VL.oSome_ap, VL.eSlice_ap, VL.pSlice, VL.pTup_ap, VL.pLst_ap, VL.pI2, VL.pNeg, VL.pAdd, VL.pAddT, VL.pMul, VL.pEq_int, VL.pEq_bl, VL.pEq_str, VL.pEq_nm, VL.pEq_nil, VL.pIsN, VL.pIx, VL.pLen, VL.pAbs, VL.pMin, VL.pMax, VL.pDivmod, VL.pInt, VL.pList, VL.pTuple, VL.pSumA, VL.pAll, VL.pAny, VL.pIn_lst, VL.pIn_tup, VL.pIsi, VL.pIsi2, VL.D.tyn, VL.isiB, VL.flatD, VL.keyD, VL.Kind.S, VL.wipeE, VL.eDict0_ap, VL.eDict1_ap, VL.pGet, VL.nm, VL.atomL_app, VL.atI_0, VL.atI_1, VL.atI_2, VL.atI_3, VL.eCallT_ap, VL.pOdd1, VL.pMinD, VL.pMaxD, VL.opUpd, VL.eRow_ap, VL.sExtF_ap, VL.sRetS_ap, VL.D.one, VL.pMulT, VL.eIdx_ap, $ts,*])
namespace VL
noncomputable section
open PySem PySem.Spec PyProof.Rows L2
open GxR (TabB Tabbed)
variable [LamT]
section
variable {G : Gb}
theorem Stp.at {i : Nat} {H H' : Hp} {E E' : Env} {Fs Fs' : Nat → List Addr} (s : Stp [i] H H' E E' Fs Fs') : Chg (fun q => q ∈ Fs i) H H' := s.chg.mono fun _ _ _ ⟨j, hj, _, _, _, _, h⟩ => by
  rw [List.mem_singleton.mp hj] at h
  exact h
theorem Chg.drop {H H' : Hp} {r : Addr} (c : Chg (fun q => q = r) H H') (e : H' r = H r) : Chg No H H' := fun q o eq => by
  rcases c q o eq with h | h | ⟨rfl, _⟩
  · exact .inl h
  · exact .inr (.inl h)
  · exact .inl (by rw [e]; exact eq)
end
end
end VL
set_option maxHeartbeats 4000000
namespace VL
noncomputable section
open PySem PySem.Spec PyProof.Rows L2
open GxR (TabB Tabbed)
variable [LamT]
structure Mov (E E' : Env) (Fs Fs' : Nat → List Addr) (A : List Addr) : Prop where
  sl : ∀ i m d, E'[i]? = some (some (m, d)) → (∃ d', E[i]? = some (some (m, d'))) ∧ ∀ a ∈ Fs' i, a ∈ Fs i
  fr : ∀ a ∈ A, ∃ i m d, E[i]? = some (some (m, d)) ∧ m.w = true ∧ a ∈ Fs i
  ap : ∀ a ∈ A, ∀ i m d, E'[i]? = some (some (m, d)) → a ∉ Fs' i
  nd : A.Nodup
section
variable {G : Gb} {C : Ctx} {X : Cx} {H H' : Hp} {σ : L2.St} {E E1 E2 E' : Env} {Fs Fs1 Fs2 : Nat → List Addr} {A B : List Addr}
theorem Mov.refl : Mov E E Fs Fs [] := ⟨fun i m d e => ⟨⟨d, e⟩, fun a ha => ha⟩, fun a ha => (by cases ha), fun a ha => (by cases ha), List.nodup_nil⟩
theorem Mov.trans (a : Mov E E1 Fs Fs1 A) (b : Mov E1 E2 Fs1 Fs2 B) : Mov E E2 Fs Fs2 (A ++ B) where
  sl := fun i m d e => by
    obtain ⟨⟨d1, e1⟩, h1⟩ := b.sl i m d e
    obtain ⟨⟨d2, e2⟩, h2⟩ := a.sl i m d1 e1
    exact ⟨⟨d2, e2⟩, fun x hx => h2 x (h1 x hx)⟩
  fr := fun x hx => by
    rcases List.mem_append.mp hx with hx | hx
    · exact a.fr x hx
    · obtain ⟨i, m, d, e, hw, hm⟩ := b.fr x hx
      obtain ⟨⟨d1, e1⟩, h1⟩ := a.sl i m d e
      exact ⟨i, m, d1, e1, hw, h1 x hm⟩
  ap := fun x hx i m d e => by
    rcases List.mem_append.mp hx with hx | hx
    · obtain ⟨⟨d1, e1⟩, h1⟩ := b.sl i m d e
      exact fun hm => a.ap x hx i m d1 e1 (h1 x hm)
    · exact b.ap x hx i m d e
  nd := List.nodup_append.mpr ⟨a.nd, b.nd, fun x hx y hy e => by
    subst e
    obtain ⟨i, m, d, e, _, hm⟩ := b.fr x hy
    exact a.ap x hx i m d e hm⟩
theorem Mov.cut {i : Nat} {m : Mode} {d d' : D} {v : V} {F1 F2 : List Addr} (R : Rel G C H σ E Fs) (ei : E[i]? = some (some (m, d))) (hw : m.w = true) (hv : σ[i]? = some (some v)) (eF : Fs i = F1 ++ (A ++ F2)) (rd : Rds G H d' v (F1 ++ F2)) :
    Rel G C H σ (E.set i (some (m, d'))) (FsSet Fs i (F1 ++ F2)) ∧ Mov E (E.set i (some (m, d'))) Fs (FsSet Fs i (F1 ++ F2)) A := by
  obtain ⟨n1, n2, n3⟩ := R.nd i m d ei hw
  have hi := (List.getElem?_eq_some_iff.mp ei).1
  rw [eF] at n1
  have sub : ∀ a ∈ F1 ++ F2, a ∈ Fs i := fun a ha => by
    rw [eF]
    rcases List.mem_append.mp ha with h | h <;> simp [h]
  have nd2 : (F1 ++ F2).Nodup := (List.Sublist.append (List.Sublist.refl F1) (List.sublist_append_right A F2)).nodup n1
  refine ⟨R.write ei hw hv (Chg.refl _ _) rd nd2 fun a ha => .inl (sub a ha), fun j mj dj ej => ?_, fun a ha => ⟨i, m, d, ei, hw, by rw [eF]; simp [ha]⟩, fun a ha j mj dj ej => ?_, ?_⟩
  · by_cases h : j = i
    · subst h
      rw [List.getElem?_set_self hi] at ej
      cases ej
      exact ⟨⟨d, ei⟩, fun a ha => sub a (by rwa [FsSet_self] at ha)⟩
    · rw [List.getElem?_set_ne (Ne.symm h)] at ej
      exact ⟨⟨dj, ej⟩, fun a ha => by rwa [FsSet, if_neg h] at ha⟩
  · by_cases h : j = i
    · subst h
      rw [FsSet_self]
      intro hm
      rw [List.nodup_append] at n1
      obtain ⟨_, n4, d1⟩ := n1
      rw [List.nodup_append] at n4
      rcases List.mem_append.mp hm with z | z
      · exact d1 a z a (List.mem_append_left _ ha) rfl
      · exact n4.2.2 a ha a z rfl
    · rw [List.getElem?_set_ne (Ne.symm h)] at ej
      rw [FsSet, if_neg h]
      exact n3 j mj dj h ej a (by rw [eF]; simp [ha])
  · rw [List.nodup_append, List.nodup_append] at n1
    exact n1.2.1.1
variable {e b : Expr} {i : Nat} {g : EF} {k : Kind} {pos : Pos}
end
end
end VL
set_option maxHeartbeats 4000000
namespace TA
open PySem PySem.Spec PyProof.Rows L2
section
variable {prog : Program} {w : World} {A : Around} {E : Value → Shared → Prop} {s : Shared}
theorem places_back (n : Nat) : Builtin.Slice.slicePlaces ((n : Int) - 1) (-1) (-1) = n := by
  unfold Builtin.Slice.slicePlaces
  rw [if_neg (by decide)]
  by_cases h : (n : Int) - 1 > -1
  · rw [if_pos h, show (- -1 : Int) = 1 by decide, Int.ediv_one]
    omega
  · rw [if_neg h]
    omega
theorem slice_backN {n : Nat} {sl : Addr} {vl vu vs : Value} {Q : Int × Int × Nat → Shared → Prop} (hs : s.heap.IsSliceOf sl vl vu vs) (pl : IsPart vl none) (pu : IsPart vu none) (ps : IsPart vs (some (-1)))
    (h : Q ((n : Int) - 1, -1, n) s) : wpAny (model prog w) A (Builtin.Slice.sliceApplied (.ref sl) (pure (n : Int))) Q E s := by
  obtain ⟨os, hos, hcs, hds⟩ := id hs
  unfold Builtin.Slice.sliceApplied Builtin.Slice.sliceFields
  refine wpAny_bind (wpAny_bind (wpAny_field hos hds (x := vl) rfl (wpAny_bind (wpAny_field hos hds (x := vu) rfl (wpAny_bind (wpAny_field hos hds (x := vs) rfl (wpAny_pure ?_)))))))
  refine wpAny_bind (HT.slicePart_ ps ?_)
  show wpAny _ _ (if ((-1 : Int) == 0) = true then _ else _) _ _ s
  rw [if_neg (by decide)]
  refine wpAny_bind (HT.slicePart_ pl (wpAny_bind (HT.slicePart_ pu (wpAny_bind (wpAny_pure ?_)))))
  have e : ((n : Int) - 1, (-1 : Int), Builtin.Slice.slicePlaces ((n : Int) - 1) (-1) (-1)) = ((n : Int) - 1, -1, n) := by rw [places_back]
  rw [← e] at h
  exact wpAny_pure h
theorem fmap_congr {α β : Type} {f g : α → Option β} : ∀ {l : List α}, (∀ x ∈ l, f x = g x) → l.filterMap f = l.filterMap g
  | [], _ => rfl
  | a :: l, h => by
    rw [List.filterMap_cons, List.filterMap_cons, h a List.mem_cons_self, fmap_congr fun x hx => h x (List.mem_cons_of_mem _ hx)]
theorem pick_back (xs : Array Value) : ((List.range xs.size).filterMap fun (k : Nat) => xs[(((xs.size : Int) - 1) + (k : Int) * -1).toNat]?).toArray = xs.toList.reverse.toArray := by
  have e1 : ((List.range xs.size).filterMap fun (k : Nat) => xs[(((xs.size : Int) - 1) + (k : Int) * -1).toNat]?) = ((List.range xs.size).map fun k => xs.size - 1 - k).filterMap (xs[·]?) := by
    rw [List.filterMap_map]
    refine fmap_congr fun k hk => ?_
    have := List.mem_range.mp hk
    have e : (((xs.size : Int) - 1) + (k : Int) * -1).toNat = xs.size - 1 - k := by omega
    rw [e]
    rfl
  rw [e1, PySem.W.krv_range, List.filterMap_reverse, PySem.W.krv_all]
theorem tup_back {t sl : Addr} {xs : Array Value} {vl vu vs : Value} {Q : Value → Shared → Prop} (ht : IsTup s.heap t xs) (hz : xs.size ≤ sizeLine) (hs : s.heap.IsSliceOf sl vl vu vs) (pl : IsPart vl none) (pu : IsPart vu none) (ps : IsPart vs (some (-1)))
    (h : Q (.ref s.heap.objs.size) { s with heap := s.heap.push { cls := .type "tuple", data := .seq xs.toList.reverse.toArray } }) : wpAny (model prog w) A (getItem (.ref t) (.ref sl)) Q E s := by
  obtain ⟨os, hos, hcs, hds⟩ := id hs
  have hTs : s.TypeIs (.ref sl) "slice" := ⟨os, hos, hcs⟩
  unfold getItem
  try with_reducible refine wpAny_holding ?_
  first | refine wpAny_bind (wpAny_pure ?_) | skip
  refine wpAny_bind (wpAny_sequenceKey ht.typeIs (by decide) ?_)
  refine wpAny_bind (wpAny_callSpecial?_slot (name := Str.ofString "__getitem__") ht.typeIs PyProof.Rows.slot_tuple_getitem
    (wpAny_call_entry PyProof.Rows.slot_tuple_getitem ht.typeIs PyProof.Rows.entry_tuple_getitem ?_ (PyProof.Rows.args_tuple_getitem _ _)))
  show wpAny _ _ (Builtin.Tuple.tupleItemsOf (.ref t) >>= _) _ _ s
  refine wpAny_bind (PyProof.Rows.tupleItemsOf_ ht ?_)
  refine wpAny_bind (wpAny_typeOf hTs ?_)
  rw [if_pos (by decide)]
  refine wpAny_bind (slice_backN hs pl pu ps ?_)
  show wpAny _ _ (if (((xs.size : Int) - 1) == 0 && (-1 : Int) == 1 && xs.size == xs.size) = true then _ else _) _ _ s
  rw [if_neg (by simp)]
  have htake : sizeOk (.seq (xs.toList.reverse.toArray : Array Value)) := by
    show xs.toList.reverse.toArray.size ≤ sizeLine
    simpa using hz
  rw [pick_back]
  first
    | exact wpAny_bind (m := Builtin.Tuple.tupleExact _) (wpAny_newObj_type (wpAny_pure ⟨_, rfl, wpAny_pure h⟩) htake)
    | exact wpAny_bind (m := Builtin.Tuple.tupleExact _) (wpAny_newObj_type (wpAny_bind (wpAny_pure (wpAny_pure ⟨_, rfl, wpAny_pure h⟩))) htake)
    | exact wpAny_bind (wpAny_bind (m := Builtin.Tuple.tupleExact _) (wpAny_newObj_type (wpAny_pure (wpAny_pure ⟨_, rfl, wpAny_pure h⟩)) htake))
    | exact wpAny_bind (wpAny_bind (m := Builtin.Tuple.tupleExact _) (wpAny_newObj_type (wpAny_pure ⟨_, rfl, wpAny_pure h⟩) htake))
end
section
variable {X : Cx}
def tRevA (K : PySem.W.Frag) (te : TE) : TE := fun σ H Q => te σ H fun x H1 => (∃ a ys, x = .ref a ∧ SqL K H1 a ys ∧ ∀ p, H1 p = none → Q (.ref p) (upd H1 p (.lst ys.reverse))) ∨ ∃ a ys, x = .ref a ∧ SqT K H1 a ys ∧ ∀ p, H1 p = none → Q (.ref p) (upd H1 p (.tup ys.reverse))
theorem pe_revA {e : Expr} {te : TE} {k : Nat} {p1 p2 p3 pos : Pos} (he : PE X e te) : PE X (.Subscript e (.Slice none none (some (.UnaryOp .USub (.Constant (.int 1) k p1) p2)) p3) pos) (tRevA X.K te) := by
  refine ⟨fun pins s σ H Q I h => ?_⟩
  refine Subscript_ (thn (he.run pins s σ H _ I h) fun v s1 ⟨x, H1, I1, r1, q1⟩ => ?_)
  rcases q1 with q1 | q1
  · obtain ⟨a, ys, ex, hx, q⟩ := q1
    subst ex
    cases r1
    have hst : PO X (some (.UnaryOp .USub (.Constant (.int 1) k p1) p2)) (tPart (tUn (rU fun i => .int (-i)) (tC (.int 1)))) := po_some (pe_un un_neg pe_int)
    refine wpAny_Slice (thn (po_none.run pins s1 σ H1 (fun o H2 => o = none ∧ H2 = H1) I1 ⟨rfl, rfl⟩) fun vl s2 ⟨l, H2, I2, pl, el, e2⟩ => ?_)
    subst el e2
    refine thn (po_none.run pins s2 σ H2 (fun o H3 => o = none ∧ H3 = H2) I2 ⟨rfl, rfl⟩) fun vu s3 ⟨u, H3, I3, pu, eu, e3⟩ => ?_
    subst eu e3
    refine thn (hst.run pins s3 σ H3 (fun o H4 => o = some (-1) ∧ H4 = H3) I3 ⟨1, rfl, -1, rfl, rfl, rfl⟩) fun vs s4 ⟨o, H4, I4, ps, eo, e4⟩ => ?_
    subst eo e4
    have I5 : Inv X pins σ H4 { s4 with heap := s4.heap.push { cls := .type "slice", data := .fields #[vl, vu, vs] } } := I4.kept (t' := s4.toks) fun b ob q => Heap.get?_push_of_some _ q
    obtain ⟨its, r, ht, hz⟩ := I5.list hx
    have hl := r.length
    show wpAny (model X.prog X.w) X.A (subscriptTail e (.Slice none none (some (.UnaryOp .USub (.Constant (.int 1) k p1) p2)) p3) (.ref a) (.ref s4.heap.objs.size)) (EP X pins σ Q) X.xe { s4 with heap := s4.heap.push { cls := .type "slice", data := .fields #[vl, vu, vs] } }
    refine tail_any (ops := [.ref a, .ref s4.heap.objs.size]) ht.isList.typeIs (PySem.slot_list_getitem.lookup) ?_ (by with_unfolding_all rfl)
    refine wpAny_getItem_list_slice ht.isList (Heap.IsSliceOf.new _ vl vu vs) pl pu ps (by decide) ?_ (by rw [List.size_toArray]; omega)
    rw [PySem.W.krv_pick]
    refine ⟨.ref _, _, I5.laid (t' := s4.toks) (o := .lst ys.reverse) (fun b ob q => Heap.get?_push_of_some _ q) (Nat.le_refl _) ?_, rfl, q _ (I5.hok.fresh (Nat.le_refl _))⟩
    exact ⟨by rw [List.length_reverse]; exact hz, _, 0, r.reverse, Heap.get?_push_size _ rfl⟩
  · obtain ⟨a, ys, ex, hx, q⟩ := q1
    subst ex
    cases r1
    have hst : PO X (some (.UnaryOp .USub (.Constant (.int 1) k p1) p2)) (tPart (tUn (rU fun i => .int (-i)) (tC (.int 1)))) := po_some (pe_un un_neg pe_int)
    refine wpAny_Slice (thn (po_none.run pins s1 σ H1 (fun o H2 => o = none ∧ H2 = H1) I1 ⟨rfl, rfl⟩) fun vl s2 ⟨l, H2, I2, pl, el, e2⟩ => ?_)
    subst el e2
    refine thn (po_none.run pins s2 σ H2 (fun o H3 => o = none ∧ H3 = H2) I2 ⟨rfl, rfl⟩) fun vu s3 ⟨u, H3, I3, pu, eu, e3⟩ => ?_
    subst eu e3
    refine thn (hst.run pins s3 σ H3 (fun o H4 => o = some (-1) ∧ H4 = H3) I3 ⟨1, rfl, -1, rfl, rfl, rfl⟩) fun vs s4 ⟨o, H4, I4, ps, eo, e4⟩ => ?_
    subst eo e4
    have I5 : Inv X pins σ H4 { s4 with heap := s4.heap.push { cls := .type "slice", data := .fields #[vl, vu, vs] } } := I4.kept (t' := s4.toks) fun b ob q => Heap.get?_push_of_some _ q
    obtain ⟨its, r, ht, hz⟩ := I5.tuple hx
    have hl := r.length
    show wpAny (model X.prog X.w) X.A (subscriptTail e (.Slice none none (some (.UnaryOp .USub (.Constant (.int 1) k p1) p2)) p3) (.ref a) (.ref s4.heap.objs.size)) (EP X pins σ Q) X.xe { s4 with heap := s4.heap.push { cls := .type "slice", data := .fields #[vl, vu, vs] } }
    refine tail_any (ops := [.ref a, .ref s4.heap.objs.size]) ht.typeIs (PyProof.Rows.slot_tuple_getitem.lookup) ?_ (by with_unfolding_all rfl)
    refine tup_back ht (by rw [List.size_toArray]; omega) (Heap.IsSliceOf.new _ vl vu vs) pl pu ps ?_
    exact ⟨.ref _, _, I5.laid (t' := s4.toks) (o := .tup ys.reverse) (fun b ob q => Heap.get?_push_of_some _ q) (Nat.le_refl _) ⟨by rw [List.length_reverse]; exact hz, its.reverse, r.reverse, IsTup.new _ _⟩, rfl, q _ (I5.hok.fresh (Nat.le_refl _))⟩
end
end TA
set_option maxHeartbeats 4000000
namespace VL
noncomputable section
open PySem PySem.Spec PyProof.Rows L2
open GxR (TabB Tabbed)
variable [LamT]
section
variable {G : Gb} {X : Cx} {H : Hp} {M : List Nat} {k : Kind} {f : EF} {e : Expr} {pos : Pos}
def pRevA : List D → Option D
  | [.lst ds] => some (.lst ds.reverse)
  | [.tup ds] => some (.tup ds.reverse)
  | _ => none
abbrev rRevA (K : PySem.W.Frag) : List V → Hp → VK → Prop := fun vs H Q => ∃ x, vs = [x] ∧ ((∃ a xs, x = .ref a ∧ SqL K H a xs ∧ ∀ p, H p = none → Q (.ref p) (upd H p (.lst xs.reverse))) ∨ ∃ a xs, x = .ref a ∧ SqT K H a xs ∧ ∀ p, H p = none → Q (.ref p) (upd H p (.tup xs.reverse)))
theorem prim_revA (hK : X.K = G.K) : PrimV G (rRevA X.K) pRevA := fun H vs ds F Q d tb r e q => by
  rw [hK]
  unfold pRevA at e
  split at e
  · rename_i xs
    cases e
    obtain ⟨v, rfl, h1⟩ := rdsL1 r
    obtain ⟨a, us, A, rfl, h3, h4, rfl⟩ := rds_lst.mp h1
    refine ⟨_, rfl, .inl ⟨a, us, rfl, SqL.of h3, fun b hb => ?_⟩⟩
    obtain ⟨A', h5, h6⟩ := rdsL_rev h4
    have c : Chg No H (upd H b (.lst us.reverse)) := Chg.new hb
    refine q _ _ (b :: A') (rds_lst.mpr ⟨b, _, A', rfl, upd_same, RdsL.chg c _ _ _ (fun _ _ z => z) h5, rfl⟩) (fun nd => ?_) (fun z hz => ?_) (fun z t _ ez => ?_) c
    · refine List.nodup_cons.mpr ⟨fun z => ?_, h6.nodup_iff.mpr (List.nodup_cons.mp nd).2⟩
      obtain ⟨o, eo, _⟩ := RdsL.trk _ _ _ h5 b z
      rw [hb] at eo
      cases eo
    · rcases List.mem_cons.mp hz with rfl | hz
      · exact .inr hb
      · exact .inl (List.mem_cons_of_mem _ (h6.mem_iff.mp hz))
    · cases ez
      exact hb
  · rename_i xs
    cases e
    obtain ⟨v, rfl, h1⟩ := rdsL1 r
    obtain ⟨a, us, rfl, h3, h4⟩ := rds_tup.mp h1
    refine ⟨_, rfl, .inr ⟨a, us, rfl, h3, fun b hb => ?_⟩⟩
    obtain ⟨A', h5, h6⟩ := rdsL_rev h4
    have c : Chg No H (upd H b (.tup us.reverse)) := Chg.new hb
    exact q _ _ A' (rds_tup.mpr ⟨b, _, rfl, SqT.of upd_same, RdsL.chg c _ _ _ (fun _ _ z => z) h5⟩) (fun nd => h6.nodup_iff.mpr nd) (fun z hz => .inl (h6.mem_iff.mp hz)) (fun z t n _ => by cases n) c
  · cases e
theorem ve_revA (x : XOk G X) {j : Nat} {p1 p2 p3 : Pos} (he : VE G X e M k f) : VE G X (.Subscript e (.Slice none none (some (.UnaryOp .USub (.Constant (.int 1) j p1) p2)) p3) pos) M (kTop [k]) (ePrim pRevA (lCons f lNil)) :=
  PE.imp (TA.pe_revA he) fun σ H Q h =>
    (one_of (prim_top (prim_revA x.K) h)).mono fun v H1 ⟨x', e', h1⟩ => by
      cases e'
      exact h1
end
end
end VL
set_option maxHeartbeats 4000000
namespace VL
noncomputable section
open PySem PySem.Spec PyProof.Rows L2
open GxR (TabB Tabbed)
variable [LamT]
end
end VL
set_option maxHeartbeats 4000000
namespace VL
noncomputable section
open PySem PySem.Spec PyProof.Rows L2
open GxR (TabB Tabbed)
variable [LamT]
section
variable {G : Gb} {X : Cx} {σ : L2.St} {H : Hp} {Q : VK}
variable {scope : Scope} {own : List (Str × Nat)} {pos q p1 p2 p3 p4 : Pos} {x y : Str} {c1 : Nat}
end
end
end VL
set_option maxHeartbeats 4000000
namespace VL
noncomputable section
open PySem PySem.Spec PyProof.Rows L2
open GxR (TabB Tabbed)
variable [LamT]
section
variable {G : Gb} {C : Ctx} {X : Cx} {H H' : Hp} {σ : L2.St} {E E1 E2 E' : Env} {Fs Fs1 Fs2 : Nat → List Addr} {A B : List Addr}
theorem Mov.sub (M : Mov E E' Fs Fs1 A) (h : ∀ a ∈ B, a ∈ A) (nd : B.Nodup) : Mov E E' Fs Fs1 B := ⟨M.sl, fun a ha => M.fr a (h a ha), fun a ha => M.ap a (h a ha), nd⟩
variable {e e2 : Expr} {i : Nat} {pos p1 p2 : Pos} {j : Nat}
end
end
end VL
set_option maxHeartbeats 4000000
namespace VL
noncomputable section
open PySem PySem.Spec PyProof.Rows L2
open GxR (TabB Tabbed)
variable [LamT]
def putDk (l : List (Key × D)) (k : Key) (d : D) : List (Key × D) := if (l.any fun p => decide (p.1 = k)) = true then l.map (fun p => if p.1 = k then (p.1, d) else p) else l ++ [(k, d)]
section
variable {G : Gb} {X : Cx} {H : Hp}
def AL (G : Gb) (H : Hp) : List (Key × D) → List (Key × V) → Prop
  | [], [] => True
  | p :: l, q :: us => q.1 = p.1 ∧ Rds G H p.2 q.2 [] ∧ AL G H l us
  | _, _ => False
theorem AL.keys : ∀ {l : List (Key × D)} {us : List (Key × V)}, AL G H l us → us.map (·.1) = l.map (·.1)
  | [], [], _ => rfl
  | p :: l, q :: us, h => by rw [List.map_cons, List.map_cons, h.1, AL.keys h.2.2]
  | [], _ :: _, h => h.elim
  | _ :: _, [], h => h.elim
theorem AL.rds : ∀ {l : List (Key × D)} {us : List (Key × V)}, AL G H l us → RdsL G H (l.map (·.2)) (us.map (·.2)) []
  | [], [], _ => rdsL_nil.mpr ⟨rfl, rfl⟩
  | p :: l, q :: us, h => rdsL_cons.mpr ⟨q.2, us.map (·.2), [], [], rfl, rfl, h.2.1, AL.rds h.2.2⟩
  | [], _ :: _, h => h.elim
  | _ :: _, [], h => h.elim
theorem AL.any (k : Key) : ∀ {l : List (Key × D)} {us : List (Key × V)}, AL G H l us → (us.any fun kv => decide (kv.1 = k)) = (l.any fun p => decide (p.1 = k))
  | [], [], _ => rfl
  | p :: l, q :: us, h => by rw [List.any_cons, List.any_cons, h.1, AL.any k h.2.2]
  | [], _ :: _, h => h.elim
  | _ :: _, [], h => h.elim
theorem AL.map (k : Key) {d : D} {v : V} (r : Rds G H d v []) : ∀ {l : List (Key × D)} {us : List (Key × V)}, AL G H l us → AL G H (l.map (fun p => if p.1 = k then (p.1, d) else p)) (us.map (fun kv => if kv.1 = k then (kv.1, v) else kv))
  | [], [], _ => True.intro
  | p :: l, q :: us, h => by
    rw [List.map_cons, List.map_cons]
    refine ⟨?_, ?_, AL.map k r h.2.2⟩
    · rw [h.1]
      by_cases z : p.1 = k
      · rw [if_pos z, if_pos z]
      · rw [if_neg z, if_neg z]
        exact h.1
    · rw [h.1]
      by_cases z : p.1 = k
      · rw [if_pos z, if_pos z]
        exact r
      · rw [if_neg z, if_neg z]
        exact h.2.1
  | [], _ :: _, h => h.elim
  | _ :: _, [], h => h.elim
theorem AL.snoc {k : Key} {d : D} {v : V} (r : Rds G H d v []) : ∀ {l : List (Key × D)} {us : List (Key × V)}, AL G H l us → AL G H (l ++ [(k, d)]) (us ++ [(k, v)])
  | [], [], _ => ⟨rfl, r, True.intro⟩
  | p :: l, q :: us, h => ⟨h.1, h.2.1, AL.snoc r h.2.2⟩
  | [], _ :: _, h => h.elim
  | _ :: _, [], h => h.elim
theorem AL.put {k : Key} {d : D} {v : V} (r : Rds G H d v []) {l : List (Key × D)} {us : List (Key × V)} (h : AL G H l us) : AL G H (putDk l k d) (putK us k v) := by
  unfold putDk putK
  rw [h.any k]
  split
  · exact h.map k r
  · exact h.snoc r
theorem AL.len : ∀ {l : List (Key × D)} {us : List (Key × V)}, AL G H l us → us.length = l.length := fun h => by
  have := congrArg List.length h.keys
  simpa using this
theorem AL.of : ∀ {ks : List Key} {ds : List D} {us : List (Key × V)}, us.map (·.1) = ks → RdsL G H ds (us.map (·.2)) [] → AL G H (ks.zip ds) us
  | [], ds, [], _, r => by
    rw [List.zip_nil_left]
    exact True.intro
  | [], _, _ :: _, e, _ => by cases e
  | k :: ks, ds, [], e, _ => by cases e
  | k :: ks, [], q :: us, e, r => by
    obtain ⟨h, _⟩ := rdsL_nil.mp r
    cases h
  | k :: ks, d :: ds, q :: us, e, r => by
    obtain ⟨x, rr, A, B, e1, e2, h1, h2⟩ := rdsL_cons.mp r
    obtain ⟨rfl, rfl⟩ := List.append_eq_nil_iff.mp e2.symm
    rw [List.map_cons] at e1 e
    cases e1
    cases e
    exact ⟨rfl, h1, AL.of rfl h2⟩
theorem AL.chg {H' : Hp} {M : Addr → Prop} (c : Chg M H H') : ∀ {l : List (Key × D)} {us : List (Key × V)}, AL G H l us → AL G H' l us
  | [], [], _ => True.intro
  | p :: l, q :: us, h => ⟨h.1, Rds.chg c _ _ _ (fun a h => by cases h) h.2.1, AL.chg c h.2.2⟩
  | [], _ :: _, h => h.elim
  | _ :: _, [], h => h.elim
end
end
end VL
set_option maxHeartbeats 4000000
namespace VL
noncomputable section
open PySem PySem.Spec PyProof.Rows L2
open GxR (TabB Tabbed)
variable [LamT]
section
variable {G : Gb} {X : Cx} {σ : L2.St} {H : Hp} {Q : VK}
variable {scope : Scope} {own : List (Str × Nat)} {pos q p1 p2 p3 p4 : Pos} {x y : Str} {c1 : Nat}
end
end
end VL
set_option maxHeartbeats 4000000
namespace VL
noncomputable section
open PySem PySem.Spec PyProof.Rows L2
open GxR (TabB Tabbed)
variable [LamT]
end
end VL
set_option maxHeartbeats 4000000
namespace VL
noncomputable section
open PySem PySem.Spec PyProof.Rows L2
open GxR (TabB Tabbed)
variable [LamT]
section
variable {G : Gb} {X : Cx} {H : Hp}
theorem AL.drop (k : Key) : ∀ {l : List (Key × D)} {us : List (Key × V)}, AL G H l us → AL G H (l.filter fun p => decide (p.1 ≠ k)) (dropK us k)
  | [], [], _ => True.intro
  | p :: l, q :: us, h => by
    have ih := AL.drop k h.2.2
    unfold dropK at ih ⊢
    rw [List.filter_cons, List.filter_cons, h.1]
    split
    · exact ⟨h.1, h.2.1, ih⟩
    · exact ih
  | [], _ :: _, h => h.elim
  | _ :: _, [], h => h.elim
end
end
end VL
set_option maxHeartbeats 4000000
namespace VL
open PySem PySem.Spec PyProof.Rows L2
open GxR (TabB Tabbed)
variable [LamT]
noncomputable section
def sMvIns (i j : Nat) (f : EF) : SF := fun E => match E[i]? with
  | some (some (_, .lst _)) => (match f E with
    | some (.int n, E1) => (match E1[i]?, E1[j]? with
      | some (some (m, .lst ds)), some (some (.own, d)) => if m.w && (i != j) && sl (decide (ds.length < sizeLine ∧ 0 ≤ n ∧ n < 2 ^ 63)) then some (.nx ((E1.set j none).set i (some (m, .lst (ds.take n.toNat ++ [d] ++ ds.drop n.toNat))))) else none
      | _, _ => none)
    | _ => none)
  | _ => none
section
variable {G : Gb} {X : Cx} {i j : Nat} {ro : Bool} {o y z : Expr} {M : List Nat} {k : Kind} {f : EF} {apos cpos pos : Pos}
theorem vs_mvIns (x : XOk G X) (ho : PE X o (tVar i)) (hz : VE G X z M k f) (hy : PE X y (tVar j))
    (hbase : attributeBase o "insert" X.env (eval o X.env) = eval o X.env := by rfl)
    (hfew : ((backTo cpos (starEach [z, y] X.env)).all (fun x => !x.1) && (backToKw cpos (keywordEach [] X.env)).all (fun x => x.1.isSome)
      && decide (([z, y] : List Expr).length + ([] : List Keyword).length + (if ([] : List Keyword).isEmpty then 0 else 1) < 30)) = true := by rfl)
    (hline : (apos.endLine == cpos.line) = true := by rfl) (hs : starEach [z, y] X.env = [(false, eval z X.env), (false, eval y X.env)] := by rfl) (hs2 : starEach [y] X.env = [(false, eval y X.env)] := by rfl) (hplain : (backTo cpos (starEach [y] X.env)).any (·.1) = false := by rfl)
    (hsw : swapsWith (.Call (.Attribute o "insert" apos) [z, y] [] cpos) none pos.line X.env = pure false := by rfl) : VS G X ro (.Expr (.Call (.Attribute o "insert" apos) [z, y] [] cpos) pos) (sMvIns i j f) :=
  PS.imp (ps_expr (pe_bm PySem.F.plainAttrs_list PySem.F.slot_list_insert PySem.F.type_list_insert mt_insert ho (pa_cons hz (pa_cons hy pa_nil (by rw [hs2]; rfl)) (by rw [hs, hs2])) hbase hfew hline (by rw [hs, hs2]) hplain) hsw) fun N σ H ⟨C, E, Fs, R, out, e, q⟩ => by
    unfold sMvIns at e
    split at e
    · rename_i m0 ds0 e0
      split at e
      · rename_i n E1 ef
        split at e
        · rename_i m ds d e1 e2
          split at e
          · rename_i hc
            cases e
            simp only [Bool.and_eq_true, bne_iff_ne, ne_eq] at hc
            obtain ⟨⟨hw, hij⟩, hl⟩ := hc
            obtain ⟨v, hv, rv, _⟩ := R.rd i m0 _ e0
            show tBM X.K "list" rInsert (tVar i) (tCons (tV G M k f) (tCons (tVar j) tNil)) σ H _
            refine ⟨v, hv, by rw [x.K]; exact tyV_of rv rfl, ?_⟩
            show tV G M k f σ H _
            refine ⟨C, E, Fs, R, _, E1, ef, fun a H1 Fs1 F1 R1 s1 r1 k1 => ?_⟩
            obtain ⟨rfl, rfl⟩ := rds_int.mp r1
            obtain ⟨v', hv', rv', _⟩ := R1.rd i m _ e1
            have ev : v' = v := by rw [hv] at hv'; cases hv'; rfl
            subst ev
            obtain ⟨w, hwj, rw_, _⟩ := R1.rd j .own d e2
            obtain ⟨a1, a2, a3⟩ := R1.nd i m _ e1 hw
            obtain ⟨b1, b2, b3⟩ := R1.nd j .own d e2 rfl
            have R0 := R1.forget j
            have e1' : (E1.set j none)[i]? = some (some (m, .lst ds)) := by rw [List.getElem?_set_ne (Ne.symm hij)]; exact e1
            show ∃ w, σ[j]? = some (some w) ∧ _
            refine ⟨w, hwj, ?_⟩
            show rInsert v' [.int n, w] H1 fun _ H1 => N.nx σ H1
            refine mut_insert H1 (.lst ds) v' (Fs1 i) [.int n, d] [.int n, w] (Fs1 j) _ (.lst (ds.take n.toNat ++ [d] ++ ds.drop n.toNat)) .non rv' (rdsL_cons.mpr ⟨_, [w], [], Fs1 j, rfl, rfl, rds_int.mpr ⟨rfl, rfl⟩, rdsL_cons.mpr ⟨w, [], Fs1 j, [], rfl, by simp, rw_, rdsL_nil.mpr ⟨rfl, rfl⟩⟩⟩) a1 b1 (fun a ha hb => a3 j _ _ (Ne.symm hij) e2 a ha hb) (by show (if sl (decide (ds.length < sizeLine ∧ 0 ≤ n ∧ n < 2 ^ 63)) = true then some (D.lst (ds.take n.toNat ++ [d] ++ ds.drop n.toNat), D.non) else none) = _; rw [if_pos hl]) rfl fun res H' A' r1 r2 nd hA c => ?_
            refine q σ H' _ (R0.write e1' hw hv' c r1 nd fun a ha => ?_)
            rcases hA a ha with h | h
            · exact .inl h
            · refine .inr ⟨(R1.nw j _ _ e2).1 rfl a h, b2 a h, fun l hl ⟨ml, dl, el⟩ hm => ?_⟩
              obtain ⟨el', hlj⟩ := set_none_get el
              exact b3 l ml dl hlj el' a h hm
          · cases e
        · cases e
      · cases e
    · cases e
end
def pMulN : List D → Option D
  | [.lst xs, .int k] => if sl (decide (-(2 ^ 63) ≤ k ∧ k < 2 ^ 63 ∧ xs.length * k.toNat ≤ sizeLine)) then some (.lst (List.replicate k.toNat xs).flatten) else none
  | _ => none
section
variable {G : Gb} {X : Cx} {a b : Expr} {M M' : List Nat} {k k' : Kind} {f g : EF} {pos : Pos} {ks : List Kind} {l : LF} {p : List D → Option D} {r : List V → Hp → VK → Prop} {σ : L2.St} {H : Hp} {Q : VK}
def PrimN (G : Gb) (r : List V → Hp → VK → Prop) (p : List D → Option D) : Prop := ∀ (H : Hp) (vs : List V) (ds : List D) (F : List Addr) (Q : VK) (d : D), (∀ T ∈ G.tabs, TabG H T) → RdsL G H ds vs F → p ds = some d →
  (∀ v H' A, Rds G H' d v A → (∀ a ∈ A, a ∈ F ∨ H a = none) → (∀ a t, d.node = true → A = a :: t → H a = none) → Chg No H H' → Q v H') → r vs H Q
theorem prim_topN (P : PrimN G r p) (h : tV G M (.top (ks.map Kind.S).flatten) (ePrim p l) σ H Q) : tVL G M ks l σ H fun vs H2 => r vs H2 Q := by
  obtain ⟨C, E, Fs, R, d, E', e, q⟩ := h
  obtain ⟨ds, e1, e2⟩ := ePrim_some e
  refine ⟨C, E, Fs, R, ds, E', e1, fun vs H2 Fs2 FF R2 s2 a2 => ?_⟩
  refine P H2 vs ds _ Q d R2.tb a2.rds e2 fun v H3 A rA nw tp c => ?_
  refine q v H3 Fs2 A (R2.chg c) ((s2.trans (Stp.of (M := []) c)).mono fun i hi => by simpa using hi) rA ⟨fun a ha => ?_, fun a t n e => ?_⟩
  · rcases nw a ha with z | z
    · exact a2.vw a z
    · have z := R2.loose z
      exact .inr ⟨s2.chg.back z.1, z.2⟩
  · have z := R2.loose (tp a t n e)
    exact ⟨s2.chg.back z.1, z.2⟩
theorem rdsL_repN {ds : List D} {vs : List V} {A : List Addr} (h : RdsL G H ds vs A) : ∀ k : Nat, RdsL G H (List.replicate k ds).flatten (List.replicate k vs).flatten (List.replicate k A).flatten
  | 0 => rdsL_nil.mpr ⟨rfl, rfl⟩
  | k + 1 => by
    rw [List.replicate_succ, List.flatten_cons, List.replicate_succ, List.flatten_cons, List.replicate_succ, List.flatten_cons]
    exact rdsL_app h (rdsL_repN h k)
theorem prim_mulN : PrimN G (r2 rMulAll) pMulN := fun H vs ds F Q d tb r e q => by
  unfold pMulN at e
  split at e
  · split at e
    · rename_i xs k hc
      obtain ⟨c2, c3, c4⟩ := sl_iff.mp hc
      cases e
      obtain ⟨x, y, A, B, rfl, rfl, h1, h2⟩ := rdsL2 r
      obtain ⟨a, us, A', rfl, h3, h4, rfl⟩ := rds_lst.mp h1
      refine ⟨_, _, rfl, .inr ⟨a, k, us, rfl, (rds_int.mp h2).1, h3, c2, c3, by rw [rdsL_len h4]; exact c4, fun p np => ?_⟩⟩
      have c : Chg No H (upd H p (.lst (List.replicate k.toNat us).flatten)) := Chg.new np
      refine q _ _ (p :: (List.replicate k.toNat A').flatten) (rds_lst.mpr ⟨p, _, _, rfl, upd_same, RdsL.chg c _ _ _ (fun _ _ z => z) (rdsL_repN h4 _), rfl⟩) (fun z hz => ?_) (fun z t _ ez => ?_) c
      · rcases List.mem_cons.mp hz with rfl | hz
        · exact .inr np
        · obtain ⟨L, hL, hz⟩ := List.mem_flatten.mp hz
          rw [(List.mem_replicate.mp hL).2] at hz
          exact .inl (List.mem_append_left _ (List.mem_cons_of_mem _ hz))
      · cases ez
        exact np
    · cases e
  · cases e
theorem ve_mulN (ha : VE G X a M k f) (hb : VE G X b M' k' g) (sf : k.safe M' = true := by rfl) : VE G X (.BinOp a .Mult b pos) (M ++ M') (.top ([k, k'].map Kind.S).flatten) (ePrim pMulN (lCons f (lCons g lNil))) :=
  PE.imp (pe_op op_mulAll ha hb) fun σ H Q h => (two_of sf (prim_topN prim_mulN h)).mono fun x H1 q => q.mono fun y H2 q => r2_of q
end
end
end VL
set_option maxHeartbeats 4000000
namespace VL
noncomputable section
open PySem PySem.Spec PyProof.Rows L2
open GxR (TabB Tabbed)
structure Grn (s s' : Shared) : Prop where
  hp : ∀ b o, s.heap.get? b = some o → s'.heap.get? b = some o
  gn : s'.gens = s.gens
  dr : s'.drawn = s.drawn
  os : s'.os = s.os
theorem Grn.refl {s : Shared} : Grn s s := ⟨fun _ _ e => e, rfl, rfl, rfl⟩
theorem Grn.trans {s s1 s2 : Shared} (a : Grn s s1) (b : Grn s1 s2) : Grn s s2 := ⟨fun x o e => b.hp x o (a.hp x o e), b.gn.trans a.gn, b.dr.trans a.dr, b.os.trans a.os⟩
section
variable {X : Cx}
variable {pins : List (Addr × Obj)} {σ : L2.St} {H : Hp} {s : Shared}
end
end
end VL
set_option maxHeartbeats 4000000
namespace VL
noncomputable section
open PySem PySem.Spec PyProof.Rows L2
open GxR (TabB Tabbed)
variable [LamT]
theorem fnXC {P : Program} {w : World} {G : Gb} {mg : Str → Option Value} {b0 : Heap} {x qu : Str} {st : Stmt} {f c : Addr} {fd : FuncData} {N ps : List Str} {k : Nat} {ro : Bool} {S : SX} (F : Fun G.K x qu st f fd) (hc : fd.code = .ref c) (Sc : FnScope N ps (defScope st)) (hn : ps.length ≤ N.length)
    (hb : ∀ (B : Around) (ou : List PySem.Env) (s : Shared) (H : Hp) (E : XK) (W : WX), XOk G (cxOf (L2N.CX P w) P w G.K mg b0 N qu (defScope st) f (.ref c) B ou s H E) → (B.deeper (envOfC qu (defScope st) s.heap.objs.size f (.ref c))).guards = some [] → Room k (B.deeper (envOfC qu (defScope st) s.heap.objs.size f (.ref c))) →
      PassesOwn (model P w) (cxOf (L2N.CX P w) P w G.K mg b0 N qu (defScope st) f (.ref c) B ou s H E).A (cxOf (L2N.CX P w) P w G.K mg b0 N qu (defScope st) f (.ref c) B ou s H E).env (cxOf (L2N.CX P w) P w G.K mg b0 N qu (defScope st) f (.ref c) B ou s H E).xe →
      L2N.Takes (cxOf (L2N.CX P w) P w G.K mg b0 N qu (defScope st) f (.ref c) B ou s H E) W →
      VXs G (cxOf (L2N.CX P w) P w G.K mg b0 N qu (defScope st) f (.ref c) B ou s H E) ro W (defBody st) S) :
    TA.FnG P w G.K mg b0 (L2N.CX P w) (k + 1) f fd ps (spX G ro ps.length (callX S N.length)) := by
  obtain ⟨oc, od, kV, dc, pm, an, cd, ct, sl, rfl, lk, hcd⟩ := F.ex
  cases (show cd = .ref c from hc)
  refine TA.fnG_of lk hcd Sc spX_len fun B ou s H vs Q E hg hr hsp => ?_
  exact ⟨_, hb B ou s H E _ ⟨rfl, rfl, show (B.deeper (envOfC qu (defScope st) s.heap.objs.size f (.ref c))).units + 70 < cLine by have := hr.un; omega⟩ hg hr (passes_of rfl) (L2N.takes_of rfl rfl rfl rfl), post_callX hn hsp⟩
end
end VL
set_option maxHeartbeats 4000000
namespace VL
noncomputable section
open PySem PySem.Spec PyProof.Rows L2
variable [LamT]
end
end VL
set_option maxHeartbeats 4000000
namespace VL
open PySem PySem.Spec PyProof.Rows L2
variable [LamT]
def KitAll (K : PySem.W.Frag) (t : Value) : List Value → List Bool → Prop
  | [], [] => True
  | u :: us, b :: bs => PySem.W.kitOne K t u = some b ∧ KitAll K t us bs
  | _, _ => False
omit [LamT] in
theorem kit_all {K : PySem.W.Frag} {t : Value} : ∀ {us : List Value} {bs : List Bool}, KitAll K t us bs → PySem.W.kitAny K t us = some (bs.any id)
  | [], [], _ => rfl
  | [], _ :: _, h => h.elim
  | _ :: _, [], h => h.elim
  | u :: us, b :: bs, h => by
    have ih := kit_all h.2
    unfold PySem.W.kitAny
    rw [h.1, ih]
    cases b <;> simp
section
variable {G : Gb} {X : Cx} {cs : List Nat}
theorem ve_isxT (x : XHot G X cs) {i : Nat} {en ec : Expr} {cvs : List V} {us : List Value} {ts : Nat → List Bool} {tt : TE} {q pos : Pos} (hv : PE X en (tVar i)) (hc : PE X ec tt)
    (ht : ∀ (σ : L2.St) (H : Hp) (Q : V → Hp → Prop), (cvs.length ≤ sizeLine ∧ ∀ p, H p = none → Q (.ref p) (upd H p (.tup cvs))) → tt σ H Q) (hl : cvs.length ≤ 64) (kv : Paired ClsV cvs us) (hk : ∀ c ∈ cs, KitAll G.K (.ref (G.cls c)) us (ts c)) (hg : Gl X "isinstance") (hm : X.mg "isinstance" = none)
    (n1 : starEach [en, ec] X.env = (false, eval en X.env) :: starEach [ec] X.env := by rfl) (n2 : starEach [ec] X.env = (false, eval ec X.env) :: starEach [] X.env := by rfl) (hp : (backTo pos (starEach [ec] X.env)).any (·.1) = false := by rfl) :
    VE G X (.Call (.Name "isinstance" q) [en, ec] [] pos) [] .own (eIsx cs i fun c => (ts c).any id) := by
  obtain ⟨a, c, d, oe, h1, h2, h3, h4, h5, ex⟩ := x.exP
  refine PE.imp (pe_callB (id := "isinstance") (r := TA.rIsXT X.K (G.cls c) a d) (TA.call_isXT ex) hg hm (by decide +kernel) (pa_cons hv (pa_cons hc pa_nil n2) n1) (by decide) (by decide) n1 hp) fun σ H Q ⟨C, E, Fs, R, dd, E', e, q⟩ => ?_
  unfold eIsx at e
  split at e
  · rename_i m c' ns ds ei
    split at e
    · cases e
      obtain ⟨v, g1, g2, _⟩ := R.rd i m _ ei
      obtain ⟨rfl, rfl, us', k1, k2, k3⟩ := exn_of g2 h2
      refine ⟨.ref a, g1, ht σ H _ ⟨Nat.le_trans hl (by rw [sizeLine_eq]; omega), fun p np => ?_⟩⟩
      have cc : Chg No H (upd H p (.tup cvs)) := Chg.new np
      refine ⟨p, cvs, us, _, rfl, upd_same, kv, fun z ez => ⟨us', ?_⟩, by rw [x.K]; exact kit_all (hk c' h1), q (.bl ((ts c').any id)) _ Fs [] (R.chg cc) (Stp.of cc) (rds_bl.mpr ⟨rfl, rfl⟩) ⟨List.nodup_nil, fun a ha => by cases ha⟩⟩
      have hz := k1.1 z ez
      rw [upd_ne (ne_of_none hz np)]
      exact hz
    · cases e
  · cases e
end
end VL
set_option maxHeartbeats 4000000
namespace TA
open PySem PySem.Spec PyProof.Rows L2
theorem mul_empty (l : Addr) (n : Nat) (dd : Option Addr) (sl : Array (Option Value)) (x : Int) (u : Tok) (c0 : (decide (x < -(2 ^ 63)) || decide (x ≥ 2 ^ 63)) = false) :
    Meets (Builtin.«tuple.__mul__» ⟨[.ref l, .int x u], []⟩) (fun _ R s => s.heap.get? l = some { cls := .type "tuple", dict := dd, data := .seq #[] n, slots := sl } ∧ R (.ok (.ret (Value.ref l))) s) :=
  .of_wp fun prog w A R s h => by
    obtain ⟨hp, g, d, tk, os⟩ := s
    obtain ⟨hl, h⟩ := h
    have f1 := AutoSeq1.idx_int
    have c1 : ((#[] : Array Value).isEmpty || x == 1) = true := rfl
    wp_walk using wpAny_loadPart' hl
    repeat (first
      | (refine wpAny_ite_false (decide_eq_false (by rw [c0]; exact Bool.false_ne_true)) ?_; wp_walk using wpAny_loadPart' hl)
      | (refine wpAny_ite_true (decide_eq_true c1) ?_; wp_walk using wpAny_loadPart' hl))
    all_goals exact ⟨_, rfl, h⟩
section
variable {X : Cx}
def rRep0 (K : PySem.W.Frag) : R2 := fun x y H Q => ∃ l k xs, x = .ref l ∧ y = .int k ∧ SqT K H l xs ∧ 2 ≤ k ∧ k ≤ 1000 ∧ xs.length ≤ 1000 ∧ (xs = [] → Q (.ref l) H) ∧ (xs ≠ [] → ∀ p, H p = none → Q (.ref p) (upd H p (.tup (List.replicate k.toNat xs).flatten)))
theorem op_rep0 : OpR X (binaryOp .Mult) (rRep0 X.K) := by
  intro pins s σ H x y v u Q I rx ry h
  obtain ⟨l, k, xs, rfl, rfl, hT, h1, h2, hz, q0, q⟩ := h
  by_cases hne : xs = []
  · subst hne
    cases rx
    obtain ⟨t, rfl⟩ := ry
    obtain ⟨its, r, ⟨⟨cls, dd, data, sl⟩, ho, hc, n, hd⟩, hs⟩ := I.tuple hT
    dsimp only at hc hd
    subst hc hd
    cases r
    have c0 : (decide (k < -(2 ^ 63)) || decide (k ≥ 2 ^ 63)) = false := by
      rw [decide_eq_false (by omega), decide_eq_false (by omega)]
      rfl
    exact wpAny_binaryOp_repeat_ref (T := "tuple") (U := "int") (by decide) ⟨_, ho, rfl⟩ (fun s' => typeIs_int s' k t) noFill_tuple_mul F.fills_int_mul F.slot_int_rmul repeat_tuple F.slot_int_index.lookup
      (call_meets F.slot_int_rmul (typeIs_int s k t) F.entry_int_rmul (F.args_int_rmul_2 _ _) (int_rmul_tuple k t l #[] n dd sl)
        ⟨ho, rfl, ⟨_, ho, rfl⟩, call_meets F.slot_tuple_mul ⟨_, ho, rfl⟩ F.entry_tuple_mul (F.args_tuple_mul_2 _ _) (mul_empty l n dd sl k t c0) ⟨ho, .ref l, H, I, rfl, q0 rfl⟩⟩)
  · exact op_repT pins s σ H (.ref l) (.int k) v u Q I rx ry ⟨l, k, xs, rfl, rfl, hT, hne, h1, h2, hz, q hne⟩
end
end TA
set_option maxHeartbeats 4000000
namespace VL
open PySem PySem.Spec PyProof.Rows L2
open GxR (TabB Tabbed)
variable [LamT]
noncomputable section
def pMulE : List D → Option D
  | [.tup xs, .int k] => if sl (decide (D.atomL xs = true ∧ 2 ≤ k ∧ k ≤ 1000 ∧ xs.length ≤ 1000)) then some (.tup (List.replicate k.toNat xs).flatten) else none
  | _ => none
section
variable {G : Gb} {X : Cx}
theorem prim_mulE (hK : X.K = G.K) : PrimF G (r2 (TA.rRep0 X.K)) pMulE := fun H vs ds F Q d tb r e q => by
  rw [hK]
  unfold pMulE at e
  split at e
  · split at e
    · rename_i xs k hc
      obtain ⟨c1, c3, c4, c5⟩ := sl_iff.mp hc
      cases e
      obtain ⟨x, y, A, B, rfl, rfl, h1, h2⟩ := rdsL2 r
      obtain ⟨a, us, rfl, h3, h4⟩ := rds_tup.mp h1
      have eA := RdsL.atom xs us A c1 h4
      subst eA
      have hl := rdsL_len h4
      refine ⟨_, _, rfl, a, k, us, rfl, (rds_int.mp h2).1, h3, c3, c4, by rw [hl]; exact c5, fun z => ?_, fun z p np => ?_⟩
      · rw [z] at hl
        have : xs = [] := List.eq_nil_of_length_eq_zero (by rw [← hl]; rfl)
        subst this
        refine q _ H [] ?_ List.nodup_nil (fun a ha => by cases ha) (Chg.refl _ _)
        rw [show (List.replicate k.toNat ([] : List D)).flatten = [] by simp]
        exact h1
      · have c : Chg No H (upd H p (.tup (List.replicate k.toNat us).flatten)) := Chg.new np
        exact q _ _ [] (rds_tup.mpr ⟨p, _, rfl, SqT.of upd_same, RdsL.chg c _ _ _ (fun _ ha => by cases ha) (rdsL_rep h4 k.toNat)⟩) List.nodup_nil (fun a ha => by cases ha) c
    · cases e
  · cases e
theorem ve_cntU {o e : Expr} {M M' : List Nat} {k k' : Kind} {f g : EF} {apos cpos : Pos} (x : XU G X) (ho : VE G X o M k f) (he : VE G X e M' k' g) (sf : k.safe (M' ++ []) = true := by rfl)
    (hbase : attributeBase o "count" X.env (eval o X.env) = eval o X.env := by rfl)
    (hfew : ((backTo cpos (starEach [e] X.env)).all (fun x => !x.1) && (backToKw cpos (keywordEach [] X.env)).all (fun x => x.1.isSome)
      && decide (([e] : List Expr).length + ([] : List Keyword).length + (if ([] : List Keyword).isEmpty then 0 else 1) < 30)) = true := by rfl)
    (hline : (apos.endLine == cpos.line) = true := by rfl) (hs : starEach [e] X.env = (false, eval e X.env) :: starEach [] X.env := by rfl) (hplain : (backTo cpos (starEach [] X.env)).any (·.1) = false := by rfl) :
    VE G X (.Call (.Attribute o "count" apos) [e] [] cpos) (M ++ (M' ++ [])) .own (eCnt f g) :=
  PE.imp (pe_bm PySem.F.plainAttrs_list PySem.F.slot_list_count PySem.F.type_list_count TA.mt_countV ho (vl_cons he vl_nil (safe_nil k') hs) hbase hfew hline hs hplain) fun σ H Q ⟨C, E, Fs, R, d, E', e, q⟩ => by
    unfold eCnt at e
    split at e
    · rename_i ds E1 e1
      split at e
      · rename_i d2 E2 e2
        split at e
        · rename_i v0 vs0 e3 e4
          cases e
          refine ⟨C, E, Fs, R, .lst ds, E1, e1, fun v H1 Fs1 F R1 s1 r1 k1 => ?_⟩
          obtain ⟨a, us, A, rfl, h3, h4, rfl⟩ := rds_lst.mp r1
          refine ⟨.inl ⟨rfl, us, SqL.of h3⟩, C, E1, Fs1, R1, [d2], _, by unfold lCons lNil; rw [e2], fun vs H2 Fs2 FF R2 s2 a2 => ?_⟩
          obtain ⟨y, rfl, h1⟩ := rdsL1 a2.rds
          obtain ⟨r2, k2⟩ := k1.step R1 r1 s2 sf
          obtain ⟨a', us', A', ea, h5, h6, _⟩ := rds_lst.mp r2
          cases ea
          obtain ⟨rfl, f1, _⟩ := flatD_of e3 h1
          obtain ⟨rfl, f2, _⟩ := flatsD_of e4 h6
          exact ⟨a, _, _, rfl, rfl, SqL.of h5, f1, f2, q _ H2 Fs2 [] R2 (s1.trans s2) (hInt _ _ _) ⟨List.nodup_nil, fun a ha => by cases ha⟩⟩
        · cases e
      · cases e
    · cases e
theorem ve_idxU {o e : Expr} {M M' : List Nat} {k k' : Kind} {f g : EF} {apos cpos : Pos} (x : XU G X) (ho : VE G X o M k f) (he : VE G X e M' k' g) (sf : k.safe (M' ++ []) = true := by rfl)
    (hbase : attributeBase o "index" X.env (eval o X.env) = eval o X.env := by rfl)
    (hfew : ((backTo cpos (starEach [e] X.env)).all (fun x => !x.1) && (backToKw cpos (keywordEach [] X.env)).all (fun x => x.1.isSome)
      && decide (([e] : List Expr).length + ([] : List Keyword).length + (if ([] : List Keyword).isEmpty then 0 else 1) < 30)) = true := by rfl)
    (hline : (apos.endLine == cpos.line) = true := by rfl) (hs : starEach [e] X.env = (false, eval e X.env) :: starEach [] X.env := by rfl) (hplain : (backTo cpos (starEach [] X.env)).any (·.1) = false := by rfl) :
    VE G X (.Call (.Attribute o "index" apos) [e] [] cpos) (M ++ (M' ++ [])) .own (eIdx f g) :=
  PE.imp (pe_bm PySem.F.plainAttrs_list PySem.F.slot_list_index PySem.F.type_list_index mt_index ho (vl_cons he vl_nil (safe_nil k') hs) hbase hfew hline hs hplain) fun σ H Q ⟨C, E, Fs, R, d, E', e, q⟩ => by
    unfold eIdx at e
    split at e
    · rename_i ds E1 e1
      split at e
      · rename_i d2 E2 e2
        split at e
        · rename_i v0 vs0 e3 e4
          split at e
          · rename_i j ej
            cases e
            refine ⟨C, E, Fs, R, .lst ds, E1, e1, fun v H1 Fs1 F R1 s1 r1 k1 => ?_⟩
            obtain ⟨a, us, A, rfl, h3, h4, rfl⟩ := rds_lst.mp r1
            refine ⟨.inl ⟨rfl, us, SqL.of h3⟩, C, E1, Fs1, R1, [d2], _, by unfold lCons lNil; rw [e2], fun vs H2 Fs2 FF R2 s2 a2 => ?_⟩
            obtain ⟨y, rfl, h1⟩ := rdsL1 a2.rds
            obtain ⟨r2, k2⟩ := k1.step R1 r1 s2 sf
            obtain ⟨a', us', A', ea, h5, h6, _⟩ := rds_lst.mp r2
            cases ea
            obtain ⟨rfl, f1, _⟩ := flatD_of e3 h1
            obtain ⟨rfl, f2, _⟩ := flatsD_of e4 h6
            obtain ⟨hj, p1, p2⟩ := List.findIdx?_eq_some_iff_getElem.mp ej
            refine ⟨a, _, _, j, _, rfl, rfl, SqL.of h5, f1, f2, List.getElem?_eq_getElem hj, p1, fun m z' hm hz => ?_, q _ H2 Fs2 [] R2 (s1.trans s2) (hInt _ _ _) ⟨List.nodup_nil, fun a ha => by cases ha⟩⟩
            obtain ⟨hml, rfl⟩ := List.getElem?_eq_some_iff.mp hz
            have := p2 m hm
            simpa using this
          · cases e
        · cases e
      · cases e
    · cases e
end
end
end VL
set_option maxHeartbeats 4000000
namespace VL
noncomputable section
open PySem PySem.Spec PyProof.Rows L2
open GxR (TabB Tabbed)
variable [LamT]
def tgL (g : D → Env → Option Env) (t : TF) (f : EF) : List D → Env → Option (List D)
  | [], _ => some []
  | d :: ds, E => match g d E with
    | none => none
    | some E1 => match t E1 with
      | none => none
      | some (false, _) => tgL g t f ds E
      | some (true, _) => match f E1 with
        | none => none
        | some (y, _) => (match tgL g t f ds E with
          | some ys => some (y :: ys)
          | none => none)
def eTupG1 (k : Kind) (src : IF) (g : Bool → D → Env → Option Env) (t : TF) (f : EF) (vs : List Nat) : EF := fun E => match src E with
  | some (ds, E1) => (match tgL (g (newAll E1 k.S)) t f ds (wipeE (freeze E1 k.S) vs) with
    | some ys => if sl (decide (ys.length ≤ sizeLine)) && D.atomL ys then some (.tup ys, E1) else none
    | none => none)
  | none => none
theorem eTupG1_ap (k : Kind) (src : IF) (g : Bool → D → Env → Option Env) (t : TF) (f : EF) (vs : List Nat) (E : Env) : eTupG1 k src g t f vs E = (match src E with
  | some (ds, E1) => (match tgL (g (newAll E1 k.S)) t f ds (wipeE (freeze E1 k.S) vs) with
    | some ys => if sl (decide (ys.length ≤ sizeLine)) && D.atomL ys then some (.tup ys, E1) else none
    | none => none)
  | none => none) := rfl
section
variable {G : Gb} {X : Cx}
theorem g1_of {M0 W vs : List Nat} {k ke : Kind} {src : IF} {g : Bool → D → Env → Option Env} {t : TF} {f : EF} {σ : L2.St} {H : Hp} {P : Addr} {Qc : List V → Hp → Prop}
    (hP : P ∈ G.tabs ∧ LamT.is P = false) (hW : ∀ i ∈ W, i ∈ vs) {C : Ctx} {E : Env} {Fs : Nat → List Addr} (R : Rel G C H σ E Fs) {ds : List D} {E' : Env} {ys : List D} (e1 : src E = some (ds, E')) (e2 : tgL (g (newAll E' k.S)) t f ds (wipeE (freeze E' k.S) vs) = some ys) (hlen : ys.length ≤ sizeLine) (hat : D.atomL ys = true)
    (q : ∀ out H' Fs', Rel G C H' σ E' Fs' → Stp M0 H H' E E' Fs Fs' → RdsL G H' ys out [] → Qc out H') :
    TA.tGx P (tVI G M0 k src) (fun v σ H Q => ∃ b, tVG G (.pr b) W (g b) v σ H Q) (tVT G [] t) (tV G [] ke f) vs σ H Qc := by
  refine ⟨C, E, Fs, R, ds, E', e1, fun J H1 Fs1 F R1 s1 it tr vw => ⟨(R1.tb P hP.1).1, fun H0 tbd => ?_⟩⟩
  have cT : Chg No H1 H0 := Chg.tabbed (R1.tb P hP.1) tbd hP.2
  have nwF := new_of R1 R.hn vw
  generalize newAll E' k.S = bb at e2 nwF
  have RL0 := R1.lock R.hn tr vw
  refine ⟨fun i m out Hc => m = ds.length - i ∧ i ≤ ds.length ∧ ∃ ysd rest, RdsL G Hc ysd out [] ∧ Chg No H1 Hc ∧ tgL (g bb) t f (ds.drop i) (wipeE (freeze E' k.S) vs) = some rest ∧ ys = ysd ++ rest,
    ⟨ds.length, by simp, Nat.zero_le _, [], ys, rdsL_nil.mpr ⟨rfl, rfl⟩, cT, e2, rfl⟩, ?_⟩
  rintro i m out Hc ⟨rfl, hi', ysd, rest, rdu, cc, e3, e4⟩
  have cF : Chg (fun a => a ∉ F) H1 Hc := cc.mono fun _ _ _ z => z.elim
  by_cases hlt : i < ds.length
  · refine .inr ⟨it.go Hc i cF hlt, fun out' Hn => i < ds.length ∧ ∃ ysd rest, RdsL G Hn ysd out' [] ∧ Chg No H1 Hn ∧ tgL (g bb) t f (ds.drop (i + 1)) (wipeE (freeze E' k.S) vs) = some rest ∧ ys = ysd ++ rest, fun out' Hn h => ⟨ds.length - (i + 1), by omega, rfl, h.1, h.2⟩, fun y H2 hy => ?_⟩
    obtain ⟨c3, dd, A, ed, rdA, hA⟩ := it.yl Hc i y H2 cF hlt hy
    have ed' : ds.drop i = dd :: ds.drop (i + 1) := by
      rw [List.drop_eq_getElem_cons hlt]
      rw [List.getElem?_eq_getElem hlt] at ed
      cases ed
      rfl
    rw [ed'] at e3
    unfold tgL at e3
    have cc2 : Chg No H1 H2 := (cc.trans c3).mono fun _ _ _ z => z.elim id id
    have Rc := (RL0.chg cc2).wipe vs
    cases eg : g bb dd (wipeE (freeze E' k.S) vs) with
    | none => rw [eg] at e3; cases e3
    | some E3 =>
      rw [eg] at e3
      dsimp only at e3
      refine ⟨bb, _, _, Fs1, H2, A, dd, Rc, Rc.hn, rdA, ⟨fun a ha => .inr (hA a ha), fun z a ha => nwF z a (hA a ha)⟩, E3, eg, fun σ3 Fs3 R3 b3 => ⟨wipe_eq b3.len b3.sg hW, ?_⟩⟩
      have rdu2 : RdsL G H2 ysd out [] := RdsL.chg c3 _ _ _ (fun _ ha => by cases ha) rdu
      cases et : t E3 with
      | none => rw [et] at e3; cases e3
      | some pt =>
        obtain ⟨tb, E4⟩ := pt
        rw [et] at e3
        refine ⟨_, E3, Fs3, R3, tb, E4, et, fun H4 Fs4 R4 s4 => ?_⟩
        have hE4 : E4 = E3 := s4.same (M := []) (by rw [R4.len, R3.len])
        subst hE4
        have cc4 : Chg No H1 H4 := (cc2.trans s4.no).mono fun _ _ _ z => z.elim id id
        have rdu4 : RdsL G H4 ysd out [] := RdsL.chg s4.no _ _ _ (fun _ ha => by cases ha) rdu2
        cases tb with
        | false =>
          dsimp only at e3
          exact ite_ff ⟨hlt, ysd, rest, rdu4, cc4, e3, e4⟩
        | true =>
          dsimp only at e3
          refine ite_tt ?_
          cases ef : f E4 with
          | none => rw [ef] at e3; cases e3
          | some py =>
            obtain ⟨de, E9⟩ := py
            rw [ef] at e3
            dsimp only at e3
            refine ⟨_, E4, Fs4, R4, de, E9, ef, fun v9 H9 Fs9 FF9 R9 s9 rr a9 => ?_⟩
            have cc9 : Chg No H1 H9 := (cc4.trans s9.no).mono fun _ _ _ z => z.elim id id
            have rdu9 : RdsL G H9 ysd out [] := RdsL.chg s9.no _ _ _ (fun _ ha => by cases ha) rdu4
            split at e3
            · rename_i ys' er
              cases e3
              have hya : de.atom = true := by
                rw [e4] at hat
                exact atomL_mem1 hat
              have eF9 := Rds.atom de v9 _ hya rr
              rw [eF9] at rr
              refine ⟨?_, hlt, ysd ++ [de], ys', rdsL_snoc0 rdu9 rr, cc9, er, by rw [e4]; simp⟩
              rw [rdsL_len rdu9]
              rw [e4] at hlen
              simp at hlen
              omega
            · cases e3
  · have ei : ds.drop i = [] := List.drop_eq_nil_of_le (by omega)
    rw [ei] at e3
    cases e3
    rw [List.append_nil] at e4
    subst e4
    refine .inl ⟨it.st Hc i cF (by omega), ?_⟩
    exact q out Hc Fs1 (R1.chg cc) ((s1.trans (Stp.of (M := []) cc)).mono fun i hi => by simpa using hi) rdu
end
end
end VL
set_option maxHeartbeats 4000000
namespace TA
open PySem PySem.Spec PyProof.Rows L2
open GxR (TabB TabG Tabbed)
section
variable {X : Cx}
theorem pgen_expR {k : Nat} {c P : Addr} {elt tg iter : Expr} {ifs : List Expr} {scope : Scope} {gpos : Pos} {own : List (Str × Nat)} {wi : TI} {g : TG} {tt : TT} {te : TE} (hr : Room k X.A) (hc : X.calm = true) (hN : X.N.Nodup) (TB : TabB X.base X.mg c P) (hcode : X.env.code = .ref c)
    (ok : GxOk X.N X.env.scope scope own) (hi : PI X tg iter wi)
    (hg : ∀ (A : Around) (s : Shared) (H : Hp) (C : Addr) (cd : Value) (fp : List Addr) (pn : List (Addr × Obj)), Room k A → PG (gxCx X A s H (gxEnv X scope C cd) fp pn) tg g)
    (ht : ∀ (A : Around) (s : Shared) (H : Hp) (C : Addr) (cd : Value) (fp : List Addr) (pn : List (Addr × Obj)), Room k A → PTs (gxCx X A s H (gxEnv X scope C cd) fp pn) ifs tt)
    (he : ∀ (A : Around) (s : Shared) (H : Hp) (C : Addr) (cd : Value) (fp : List Addr) (pn : List (Addr × Obj)), Room k A → PE (gxCx X A s H (gxEnv X scope C cd) fp pn) elt te)
    (hs : ∀ v, genFold iter X.env v = pure v := by intro _; rfl) : PGen X k (.GeneratorExp elt [⟨tg, iter, ifs, 0⟩] scope gpos) (tGx P wi g tt te (own.map (·.2))) E0 := by
  refine ⟨fun pins s σ H cont I h => ?_⟩
  have hfree : ∀ y ∈ scope.names, y.2 = .free → ∃ c, X.env.cells.lookup y.1 = some c := fun y hy e => by
    rcases ok.blk.free y hy e with k | k
    · exact I.ok.has _ (.inl k)
    · exact I.ok.has _ (.inr k)
  refine wpAny_GeneratorExp_make ok.co (closure_ok hfree) ok.cell ok.dot ok.blk.kind hr.depth ?_ hs
  refine thn (hi.run pins s σ H _ I h) fun xv s1 hx => thn hx fun itv s2 h2 => ?_
  obtain ⟨it, fp, tn, J, H2, e, I2, T, st2, f2, ⟨ps, hP, htr⟩, q⟩ := h2
  subst e
  refine ⟨I2.nolimit, ?_⟩
  have hPs : s2.heap.get? P = some { cls := .none, data := .fields ps } := I2.hok P _ hP
  have hPlt : P < s2.heap.objs.size := Heap.lt_size hPs
  have cd : PySem.W.CodeHd s2.heap c P := TB.code.keeps I2.bk
  have fpP : ∀ b ∈ fp, b ≠ P := fun b hb e => by
    have := (f2 b hb).1
    rw [e, hP] at this
    cases this
  have main : ∀ (code : Value) (h3 : Heap) (tk : Nat) (more : Array Value), Heap.ExtBut P s2.heap h3 → s2.heap.objs.size ≤ h3.objs.size → h3.get? P = some { cls := .none, data := .fields (ps ++ more) } → TriplesOk (ps ++ more).toList →
      wpAny (model X.prog X.w) X.A (builtinsFor X.env.globals X.env.builtins) (fun bi s₄ =>
        ∀ h', h'.Ns s₄.heap.objs.size (fun y => if y = ".0" then some (Value.ref it) else none) → Heap.SameBut s₄.heap.objs.size (s₄.heap.push { cls := .type "frame", data := .dict #[] }) h' →
          (∃ H1 sc ex, Inv X pins σ H1 sc ∧ ExOk X pins ex ∧ GMade X.prog X.w k X.stack H1 sc ex cont E0 (.ref h'.objs.size) { s₄ with
            gens := s₄.gens.push (.fresh (.compStart (.GeneratorExp elt [⟨tg, iter, ifs, 0⟩] scope gpos) 0 (.ref it) .none (genEnv scope (cloFrom X.env.cells scope.names []) s₄.heap.objs.size code bi X.env))),
            toks := s₄.toks + 1 + 1 + 1,
            heap := h'.push { cls := .type "generator", data := .fields #[.int s₄.gens.size 0, .str "<genexpr>" (s₄.toks + 1), .str (X.env.qual ++ "<genexpr>") (s₄.toks + 1 + 1)] } })) X.xe { s2 with heap := h3, toks := tk } := by
    intro code h3 tk more hx hsz hP3 ht3
    obtain ⟨bm, ob, e1, e2, e3, e4, e5, e6, e7, e8⟩ := TB.bm
    have keep3 : ∀ b u, b ≠ P → s2.heap.get? b = some u → h3.get? b = some u := fun b u hb e => hx b u hb e
    refine wpAny_builtinsFor (m := X.mg) (by rw [I2.ok.glob]; exact (I2.mod.glob.keeps I2.bk).extBut hx TB.gP) e1 e2 (keep3 _ _ e4 (I2.bk _ _ e5)) e6 e7 e8 ?_
    intro h' hn' hs'
    have Isc : Inv X pins σ (upd H2 P (.tbl (ps ++ more))) { s2 with heap := h3, toks := tk } := by
      have z := GxR.inv_tab (more := more) (h' := h3) (g' := s2.gens) (d' := s2.drawn) (t' := tk) I2 hP keep3 hP3 I2.bare
      exact z
    have tab : Tabbed P H2 (upd H2 P (.tbl (ps ++ more))) := ⟨⟨_, upd_same, ht3⟩, fun b hb => upd_ne hb⟩
    obtain ⟨W, ⟨m0, w0⟩, turn⟩ := q _ tab
    generalize hH1 : upd H2 P (.tbl (ps ++ more)) = H1 at Isc w0
    have fpn : ∀ b ∈ fp, H1 b = none := fun b hb => by rw [← hH1, upd_ne (fpP b hb)]; exact (f2 b hb).1
    have fsz : ∀ b ∈ fp, b < s2.heap.objs.size := fun b hb => by
      obtain ⟨o, e, _⟩ := T.obj _ _ st2 b hb
      exact Heap.lt_size e
    generalize hsc : ({ s2 with heap := h3, toks := tk } : Shared) = sc at Isc hn' hs' ⊢
    have hh3 : sc.heap = h3 := by rw [← hsc]
    have tn3 : tn 0 sc.heap := by
      rw [hh3]
      exact T.keep _ _ _ st2 fun b hb o e => keep3 b o (fpP b hb) e
    have hfp : ∀ b ∈ fp, FpOk X pins H1 b ∧ b < sc.heap.objs.size := fun b hb => ⟨⟨fpn b hb, (f2 b hb).2⟩, by rw [hh3]; exact Nat.lt_of_lt_of_le (fsz b hb) hsz⟩
    have hszp : h'.objs.size = sc.heap.objs.size + 1 := by rw [hs'.1, Heap.size_push]
    have keep' : ∀ b o, sc.heap.get? b = some o → h'.get? b = some o := fun b o e => hs'.extBut b o (Nat.ne_of_lt (Heap.lt_size e)) (Heap.get?_push_of_some _ e)
    generalize hgo : ({ cls := .type "generator", data := .fields #[.int sc.gens.size 0, .str "<genexpr>" (sc.toks + 1), .str (X.env.qual ++ "<genexpr>") (sc.toks + 1 + 1)] } : Obj) = go
    have hgt : (h'.push go).get? h'.objs.size = some go := by
      rw [← hgo]
      exact Heap.get?_push_size _ rfl
    have isg : ∀ {hh : Heap}, hh.get? h'.objs.size = some go → hh.IsGen h'.objs.size sc.gens.size := fun {hh} e => by
      rw [← hgo] at e
      exact ⟨_, _, _, e, rfl, rfl, rfl⟩
    refine ⟨H1, sc, fp, Isc, fun b hb => ⟨(hfp b hb).1.2.2.2.1, (hfp b hb).1.2.1, (hfp b hb).1.2.2.2.2.1, (hfp b hb).1.2.2.2.2.2⟩, ?_⟩
    refine ⟨h'.objs.size, sc.gens.size, _, rfl, by omega, by show _ < (h'.push go).objs.size; rw [Heap.size_push]; exact Nat.lt_succ_self _, isg hgt, Array.getElem?_push_size .., rfl, Isc.bare.push rfl, ?_, fun b o e => Heap.get?_push_of_some _ (keep' b o e), ?_⟩
    · exact Isc.nolimit.keeps fun b o e => Heap.get?_push_of_some _ (keep' b o e)
    · intro A S s9 hrA hfr hS hk9 ⟨c9, hS9⟩ hos9 hb9
      have hS' : h'.objs.size + 1 ≤ S := by
        have z : (h'.push go).objs.size ≤ S := hS
        rw [Heap.size_push] at z
        exact z
      have hSC : (sc.heap.objs.size : Nat) < S := by omega
      have haS : (h'.objs.size : Nat) < S := by omega
      have haC : (sc.heap.objs.size : Nat) < h'.objs.size := by omega
      have kp9 : ∀ b o, sc.heap.get? b = some o → s9.heap.get? b = some o := fun b o e => hk9 b o (Heap.get?_push_of_some _ (keep' b o e))
      have I9 := gx_start (A := A) (code := code) (itv := .ref it) (s2 := s9) (pn := [(h'.objs.size, go)]) (pw := [(S, lstObj #[] c9)]) Isc ok hN hfp hrA.hd hfr hos9 hb9
        ((hn'.push go).keeps fun b o e => hk9 b o e) kp9 (fun p hp => by
          rcases List.mem_append.mp hp with z | z
          · rw [List.mem_singleton.mp z]
            exact ⟨hk9 _ _ hgt, by show sc.heap.objs.size < h'.objs.size; omega, fun v e => by rw [← hgo] at e; cases e⟩
          · rw [List.mem_singleton.mp z]
            exact ⟨hS9, by show sc.heap.objs.size < S; omega, fun v e => by cases e⟩)
      have st9 : tn 0 s9.heap := T.keep _ _ _ tn3 fun b _ o e => kp9 b o e
      have loop := gx_loop (Y := gxCx X A sc H1 (gxEnv X scope sc.heap.objs.size code) fp [(h'.objs.size, go)]) (A := A) (elt := elt) (tg := tg) (iter := iter) (ifs := ifs) (scope := scope) (gpos := gpos) (S := S) (a := h'.objs.size) (gn := sc.gens.size) (E := E0)
        over_gx rfl rfl ok.co T (hg A sc H1 _ code fp _ hrA) (ht A sc H1 _ code fp _ hrA) (he A sc H1 _ code fp _ hrA)
        ⟨by show sc.heap.objs.size ≤ S; omega, Nat.ne_of_gt hSC, fun x c e z => by
          obtain ⟨w, zz⟩ := I9.cell x c e
          have e' : (cloFrom X.env.cells scope.names []).lookup x = some c := e
          rcases cloFrom_mem (PySem.mem_of_lookup e') with hm | ⟨h1, h2⟩
          · cases hm
          · obtain ⟨c', hc'⟩ := hfree _ h1 rfl
            have hc2 : X.env.cells.lookup x = some c' := hc'
            rw [hc2] at h2
            have h3 : c = c' := h2
            subst h3
            obtain ⟨w', z'⟩ := Isc.cell x c hc2
            have zl := z'.lt
            rw [z] at zl
            exact absurd (Nat.lt_trans hSC zl) (Nat.lt_irrefl _)⟩
        (fun p hp => by rw [List.mem_singleton.mp hp]; exact Nat.ne_of_lt haS) (fun b hb => Nat.ne_of_lt (Nat.lt_trans (hfp b hb).2 hSC)) (fun b hb => hb)
        (fun p hp b hb => by rw [List.mem_singleton.mp hp]; exact Nat.ne_of_gt (Nat.lt_trans (hfp b hb).2 haC))
        (fun {pins σ H s} J => isg (J.pin (h'.objs.size, go) (List.mem_append_left _ (List.mem_singleton.mpr rfl))).1) turn
        m0 0 [] sizeLine s9 s9 H1 (Nat.add_zero _) ⟨#[], c9, .nil, I9⟩ st9 fpn w0
      show Seg _ A _ _ _ s9 _ ((compStart (.GeneratorExp elt [⟨tg, iter, ifs, 0⟩] scope gpos) 0 (.ref it) .none (gxEnv X scope sc.heap.objs.size code)).onRaise (leaving (gxEnv X scope sc.heap.objs.size code))) [] s9
      unfold compStart
      rw [Sem.onRaise_eq_wrap]
      show Seg _ A _ _ _ s9 _ ((ask >>= _).wrap _ _ _ _) [] s9
      refine seg_bind_wrap (wpAny_askSetting ?_)
      split
      · exact seg_again rfl loop
      · first
          | exact seg_bind_wrap (wpAny_rule (seg_bind_wrap (wpAny_standAt (seg_bind_wrap (T.self _ 0 s9 _ _ st9 (seg_again rfl loop))))))
          | (refine seg_bind_wrap (wpAny_rule ?_); show Seg _ A _ _ _ s9 _ ((standAt iter.pos >>= _).wrap _ _ _ _) [] s9; exact seg_bind_wrap (wpAny_standAt (seg_bind_wrap (T.self _ 0 s9 _ _ st9 (seg_again rfl loop)))))
  cases hf : codeAmong gpos ps.toList with
  | none =>
    refine wpAny_genexprCodeX hcode (cd.code hPs htr) (cd.tab hPs) hf fun c' h' tk hx hge hlt hco' _ htab' _ => ?_
    obtain ⟨o1, vs, f1, tf, fl, tg', inF, tx, tt', op, _, _, _, _, _, _, _, _, _, htr', _⟩ := hco'
    exact main _ h' tk _ hx (Nat.le_trans hge (Nat.le_of_lt hlt)) htab'.2 htr'
  | some cv =>
    refine wpAny_genexprCode_hit hcode (cd.code hPs htr) hf ?_
    exact main cv s2.heap s2.toks #[] (Heap.ExtBut.refl _ _) (Nat.le_refl _) (by rw [Array.append_empty]; exact hPs) (by rw [Array.append_empty]; exact htr)
end
end TA
set_option maxHeartbeats 4000000
namespace VL
noncomputable section
open PySem PySem.Spec PyProof.Rows L2
open GxR (TabB Tabbed)
variable [LamT]
section
variable {G : Gb} {X : Cx} {n : Nat} {c P : Addr} {elt tg iter : Expr} {ifs : List Expr} {scope : Scope} {own : List (Str × Nat)} {p pos gpos : Pos} {M0 W : List Nat} {k ke : Kind} {src : IF} {g : Bool → D → Env → Option Env} {t : TF} {f : EF}
theorem ve_tupG1R (x : XOk G X) (hr : Room (n + 1) X.A) (hrn : Room n X.A) (TB : TabB X.base X.mg c P) (hP : P ∈ G.tabs ∧ LamT.is P = false) (hcode : X.env.code = .ref c) (hgl : Gl X "tuple") (hm : X.mg "tuple" = none) (hN : X.N.Nodup) (hi : VI G X tg iter M0 k src) (ok : TA.GxOk X.N X.env.scope scope own)
    (hg : ∀ (b : Bool) (A : Around) (s : Shared) (H : Hp) (C : Addr) (cd : Value) (fp : List Addr) (pn : List (Addr × Obj)), Room n A → VG G (TA.gxCx X A s H (TA.gxEnv X scope C cd) fp pn) tg (.pr b) W (g b))
    (ht : ∀ (A : Around) (s : Shared) (H : Hp) (C : Addr) (cd : Value) (fp : List Addr) (pn : List (Addr × Obj)), Room n A → VTs G (TA.gxCx X A s H (TA.gxEnv X scope C cd) fp pn) ifs [] t)
    (he : ∀ (A : Around) (s : Shared) (H : Hp) (C : Addr) (cd : Value) (fp : List Addr) (pn : List (Addr × Obj)), Room n A → VE G (TA.gxCx X A s H (TA.gxEnv X scope C cd) fp pn) elt [] ke f)
    (hW : ∀ i ∈ W, i ∈ own.map (·.2) := by decide) (hs : ∀ x, genFold iter X.env x = pure x := by intro _; rfl)
    (na : starEach [.GeneratorExp elt [⟨tg, iter, ifs, 0⟩] scope gpos] X.env = (false, eval (.GeneratorExp elt [⟨tg, iter, ifs, 0⟩] scope gpos) X.env) :: starEach [] X.env := by rfl) :
    VE G X (.Call (.Name "tuple" p) [.GeneratorExp elt [⟨tg, iter, ifs, 0⟩] scope gpos] [] pos) M0 .own (eTupG1 k src g t f (own.map (·.2))) :=
  PE.imp (TA.pe_tupGx (TA.pgen_expR hrn x.calm hN TB hcode ok hi (fun A s H C cd fp pn hrA => pg_ex fun b => hg b A s H C cd fp pn hrA) ht he hs) hr hgl hm na) fun σ H Q h => by
    obtain ⟨C, E, Fs, R, d, E', e, q⟩ := h
    unfold eTupG1 at e
    split at e
    · rename_i ds E1 e1
      split at e
      · rename_i ys e2
        split at e
        · rename_i hl
          rw [Bool.and_eq_true] at hl
          have hl' := sl_iff.mp hl.1
          cases e
          refine g1_of hP hW R e1 e2 hl' hl.2 fun out H' Fs' R' s' rd b hb => ?_
          have c2 : Chg No H' (upd H' b (.tup out)) := Chg.new hb
          refine q _ _ Fs' [] (R'.chg c2) ((s'.trans (Stp.of (M := []) c2)).mono fun i hi => by simpa using hi) (rds_tup.mpr ⟨b, _, rfl, SqT.of upd_same, RdsL.chg c2 _ _ _ (fun _ ha => by cases ha) rd⟩) ⟨by simp, fun z hz => by cases hz⟩
        · cases e
      · cases e
    · cases e
end
end
end VL
set_option maxHeartbeats 8000000
namespace VL
open PySem PySem.Spec PyProof.Rows L2
open GxR (TabB TabG Tabbed)
instance : LamT := ⟨fun a => false⟩
noncomputable section
def fi_NoTie : FI := initD (eJoin [(eC (.str "number ")), (eVar 1), (eC (.str " of the list is no tuple of two unlike places"))]) (eOwn (.sub 1) (eVar 1)) 2
def d_is_whole : SF := (sRet true .own (eAnd (ePrim (pIsi "int") (lCons (eVar 0) lNil)) (eNot (ePrim (pIsi "bool") (lCons (eVar 0) lNil)))))
def f_is_whole : FD := callD d_is_whole 1 []
def d_law_nth : SF := (sRet true (.vw [0]) (eIf (toT (ePrim pLt (lCons (eVar 1) (lCons (ePrim pLen (lCons (eVar 0) lNil)) lNil)))) (ePrim pIx (lCons (eVar 0) (lCons (eVar 1) lNil))) (eC (.int 0))))
def f_law_nth : FD := callD d_law_nth 2 []
def d_law_take : SF := (sSeq (sIf (toT (ePrim pGt (lCons (ePrim pIx (lCons (eVar 0) (lCons (eC (.int 0)) lNil))) (lCons (eC (.int 0)) lNil)))) (sSeq (sPairSet 0 (pName 0) (eC (.int 0)) 2 (ePrim pDivmod (lCons (ePrim pIx (lCons (eVar 0) (lCons (eC (.int 0)) lNil))) (lCons (eVar 1) lNil))))
  (sRet true (.sub 2) (eVar 2)))
  sNext)
  (sSeq (sSetIt 0 .own (ePrim pMod (lCons (ePrim pAdd (lCons (ePrim pMul (lCons (ePrim pIx (lCons (eVar 0) (lCons (eC (.int 1)) lNil))) (lCons (eC (.int 39373)) lNil))) (lCons (eC (.int 7919)) lNil))) (lCons (eC (.int 2147483629)) lNil))) (pName 0) (eC (.int 1)))
  (sRet true .own (ePrim pMod (lCons (ePrim pFdiv (lCons (ePrim pMod (lCons (ePrim pMul (lCons (ePrim pIx (lCons (eVar 0) (lCons (eC (.int 1)) lNil))) (lCons (ePrim pIx (lCons (eVar 0) (lCons (eC (.int 1)) lNil))) lNil))) (lCons (eC (.int 2147483563)) lNil))) (lCons (eC (.int 11)) lNil))) (lCons (eVar 1) lNil))))))
def f_law_take : FD := callD d_law_take 3 [0]
def d_law_is_whole : SF := (sRet true .own (eAnd (ePrim (pIsi "int") (lCons (eVar 0) lNil)) (eNot (ePrim (pIsi "bool") (lCons (eVar 0) lNil)))))
def f_law_is_whole : FD := callD d_law_is_whole 1 []
def d_law_is_other : SF := (sSeq (sIf (toTr (eIsx [10, 13, 14] 0 (fun c => ([decide (c = 0), decide (c = 1), decide (c = 2), decide (c = 3), decide (c = 4), decide (c = 5)] : List Bool).any id))) (sRet true .own (eC (.bl true)))
  sNext)
  (sRet true .own (eIsx [10, 13, 14] 0 (fun c => ([decide (c = 6), decide (c = 7), decide (c = 8), decide (c = 9), decide (c = 12), decide (c = 11)] : List Bool).any id))))
def f_law_is_other : FD := callD d_law_is_other 1 []
def d_is_place : SF := (sRet true .own (eAnd (eCall f_is_whole [] (lCons (eVar 1) lNil)) (eChain (fun i j => decide (i ≤ j)) (fun i j => decide (i < j)) (eC (.int 0)) (eVar 1) (eVar 0))))
def f_is_place : FD := callD d_is_place 2 []
def d_refuse_size : SF := (sIf (tfOr (tfNot (toTr (eCall f_is_whole [] (lCons (eVar 0) lNil)))) (tfNot (toT (eChain (fun i j => decide (i ≤ j)) (fun i j => decide (i ≤ j)) (eC (.int 1)) (eVar 0) (eC (.int 9)))))) sNever
  sNext)
def f_refuse_size : FD := callD d_refuse_size 1 []
def dx_refuse_size : SX := (xIf (tfOr (tfNot (toTr (eCall f_is_whole [] (lCons (eVar 0) lNil)))) (tfNot (toT (eChain (fun i j => decide (i ≤ j)) (fun i j => decide (i ≤ j)) (eC (.int 1)) (eVar 0) (eC (.int 9)))))) (xRz 13 (eJoin [(eC (.str "places are a whole number from 1 to ")), (eC (.int 9))]))
  (xL sNext))
def fx_refuse_size : FX := callX dx_refuse_size 1
def d_law_pot : SF := (sSeq (sSet 2 .own (eCall f_law_nth [] (lCons (eVar 0) (lCons (eVar 1) lNil))))
  (sRet true .own (ePrim pLst (lCons (ePrim pMax (lCons (eC (.int 0)) (lCons (ePrim pSub (lCons (ePrim pAbs (lCons (eVar 2) lNil)) (lCons (ePrim pPow (lCons (eC (.int 10)) (lCons (eC (.int 18)) lNil))) lNil))) lNil))) (lCons (ePrim pAdd (lCons (ePrim pAdd (lCons (ePrim pMod (lCons (ePrim pAbs (lCons (eVar 2) lNil)) (lCons (eC (.int 2147483563)) lNil))) (lCons (ePrim pMul (lCons (eC (.int 101)) (lCons (eVar 1) lNil))) lNil))) (lCons (eC (.int 1)) lNil))) lNil)))))
def f_law_pot : FD := callD d_law_pot 3 []
def d_law_pair : SF := (sSeq (sIf (tfAnd (toT (ePrim (pEq true) (lCons (eVar 2) (lCons (ePrim pLst lNil) lNil)))) (toT (ePrim (pEq false) (lCons (eCall f_law_take [0] (lCons (eVar 0) (lCons (eC (.int 4)) lNil))) (lCons (eC (.int 0)) lNil))))) (sRet true (.top [2]) (ePrim pRevA (lCons (ePrim pIx (lCons (eVar 2) (lCons (eCall f_law_take [0] (lCons (eVar 0) (lCons (ePrim pLen (lCons (eVar 2) lNil)) lNil))) lNil))) lNil)))
  sNext)
  (sSeq (sSet 3 .own (eCall f_law_take [0] (lCons (eVar 0) (lCons (eVar 1) lNil))))
  (sRet true .own (ePrim pTup (lCons (eOwn (.sub 3) (eVar 3)) (lCons (ePrim pMod (lCons (ePrim pAdd (lCons (ePrim pAdd (lCons (eVar 3) (lCons (eC (.int 1)) lNil))) (lCons (eCall f_law_take [0] (lCons (eVar 0) (lCons (ePrim pSub (lCons (eVar 1) (lCons (eC (.int 1)) lNil))) lNil))) lNil))) (lCons (eVar 1) lNil))) lNil))))))
def f_law_pair : FD := callD d_law_pair 4 [0]
def d_law_is_pair : SF := (sSeq (sIf (tfOr (tfNot (toTr (ePrim (pIsi "tuple") (lCons (eVar 1) lNil)))) (toT (ePrim (pEq true) (lCons (ePrim pLen (lCons (eVar 1) lNil)) (lCons (eC (.int 2)) lNil))))) (sRet true .own (eC (.bl false)))
  sNext)
  (sSeq (sIf (tfOr (tfNot (toTr (eCall f_law_is_whole [] (lCons (ePrim pIx (lCons (eVar 1) (lCons (eC (.int 0)) lNil))) lNil)))) (tfOr (tfNot (toTr (eCall f_law_is_whole [] (lCons (ePrim pIx (lCons (eVar 1) (lCons (eC (.int 1)) lNil))) lNil)))) (toT (ePrim (pEq false) (lCons (ePrim pIx (lCons (eVar 1) (lCons (eC (.int 0)) lNil))) (lCons (ePrim pIx (lCons (eVar 1) (lCons (eC (.int 1)) lNil))) lNil)))))) (sRet true .own (eC (.bl false)))
  sNext)
  (sRet true .own (eAnd (ePrim pGe (lCons (ePrim pMin (lCons (eVar 1) lNil)) (lCons (eC (.int 0)) lNil))) (ePrim pLt (lCons (ePrim pMax (lCons (eVar 1) lNil)) (lCons (eVar 0) lNil)))))))
def f_law_is_pair : FD := callD d_law_is_pair 2 []
def d_law_odd : SF := (sSeq (sSet 2 .own (eCall f_law_take [0] (lCons (eVar 0) (lCons (eVar 1) lNil))))
  (sSeq (sSet 3 .own (ePrim pLst (lCons (eC .non) (lCons (eOwn (.sub 2) (eVar 2)) (lCons (eC (.str "ab")) (lCons (ePrim pLst (lCons (eC (.int 0)) (lCons (eC (.int 1)) lNil))) (lCons (ePrim pTup (lCons (eOwn (.sub 2) (eVar 2)) lNil)) (lCons (ePrim pTup (lCons (eOwn (.sub 2) (eVar 2)) (lCons (eOwn (.sub 2) (eVar 2)) lNil))) (lCons (ePrim pTup (lCons (eOwn (.sub 2) (eVar 2)) (lCons (eOwn (.sub 1) (eVar 1)) lNil))) (lCons (ePrim pTup (lCons (ePrim pNeg (lCons (eC (.int 1)) lNil)) (lCons (eOwn (.sub 2) (eVar 2)) lNil))) (lCons (ePrim pTup (lCons (eC (.int 0)) (lCons (eC (.int 1)) (lCons (eC (.int 2)) lNil)))) (lCons (ePrim pTup lNil) (lCons (eC (.bl true)) (lCons (ePrim pTup (lCons (eOwn (.sub 2) (eVar 2)) (lCons (eC .non) lNil))) (lCons (ePrim pTup (lCons (eOwn (.sub 2) (eVar 2)) (lCons (eC (.str "1")) lNil))) (lCons eDict0 lNil))))))))))))))))
  (sSeq (sCat 3 pAdd (lCons (eVar 3) (lCons (ePrim pLst (lCons (ePrim pTup (lCons (eC (.bl true)) (lCons (eOwn (.sub 2) (eVar 2)) lNil))) (lCons (ePrim pTup (lCons (ePrim pTup (lCons (eC (.int 0)) lNil)) (lCons (eC (.int 1)) lNil))) (lCons (ePrim pTup (lCons (eOwn (.sub 2) (eVar 2)) (lCons (ePrim pLst (lCons (eC (.int 1)) lNil)) lNil))) lNil)))) lNil)))
  (sRet true (.sub 3) (ePrim pIx (lCons (eVar 3) (lCons (eCall f_law_take [0] (lCons (eVar 0) (lCons (eC (.int 17)) lNil))) lNil)))))))
def f_law_odd : FD := callD d_law_odd 4 [0]
def d_law_no_places : SF := (sSeq (sSet 1 .own (ePrim pMul (lCons (eCall f_law_take [0] (lCons (eVar 0) (lCons (ePrim pPow (lCons (eC (.int 10)) (lCons (eC (.int 9)) lNil))) lNil))) (lCons (ePrim pPow (lCons (eC (.int 10)) (lCons (eC (.int 50)) lNil))) lNil))))
  (sRet true .own (ePrim pIx (lCons (ePrim pLst (lCons (eC (.int 0)) (lCons (eC (.int 10)) (lCons (ePrim pNeg (lCons (eC (.int 1)) lNil)) (lCons (eOwn (.top [1]) (ePrim pAdd (lCons (eC (.int 10)) (lCons (eVar 1) lNil)))) (lCons (ePrim pSub (lCons (ePrim pNeg (lCons (eC (.int 1)) lNil)) (lCons (eVar 1) lNil))) (lCons (eC .non) (lCons (eC (.str "3")) (lCons (ePrim pTup (lCons (eC (.int 3)) lNil)) (lCons (ePrim pLst (lCons (eC (.int 3)) lNil)) (lCons (eC (.bl true)) (lCons (eC (.bl false)) (lCons eDict0 lNil))))))))))))) (lCons (eCall f_law_take [0] (lCons (eVar 0) (lCons (eC (.int 12)) lNil))) lNil)))))
def f_law_no_places : FD := callD d_law_no_places 2 [0]
def d_law_words : SF := (sSeq (sSet 1 .own (ePrim pLst (lCons (eIsx [10, 13, 14] 0 (fun c => decide (c = 13))) (lCons (eIsx [10, 13, 14] 0 (fun c => decide (c = 14))) (lCons (eIsx [10, 13, 14] 0 (fun c => decide (c = 10))) lNil)))))
  (sSeq (sIf (tfOr (toTr (eCall f_law_is_other [] (lCons (eVar 0) lNil))) (tfOr (tfNot (toTr (eIsx [10, 13, 14] 0 (fun _ => true)))) (toT (ePrim (pEq true) (lCons (eCnt (eVar 1) (eC (.bl true))) (lCons (eC (.int 1)) lNil)))))) (sRet true .own (ePrim pTup (lCons (eC (.str "other")) lNil)))
  sNext)
  (sSeq (sIf (toTr (ePrim pIx (lCons (eVar 1) (lCons (eC (.int 2)) lNil)))) (sRet true .own (ePrim pTup (lCons (eC (.str "tie")) (lCons (eOwn (.sub 0) (eXat 0 "at")) lNil))))
  sNext)
  (sRet true .own (ePrim pTup (lCons (ePrim pIx (lCons (ePrim pLst (lCons (eC (.str "web")) (lCons (eC (.str "many")) lNil))) (lCons (eIdx (eVar 1) (eC (.bl true))) lNil))) lNil))))))
def f_law_words : FD := callD d_law_words 2 []
def d_is_pair : SF := (sSeq (sIf (tfOr (tfNot (toTr (ePrim (pIsi "tuple") (lCons (eVar 1) lNil)))) (toT (ePrim (pEq true) (lCons (ePrim pLen (lCons (eVar 1) lNil)) (lCons (eC (.int 2)) lNil))))) (sRet true .own (eC (.bl false)))
  sNext)
  (sSeq (sAsg (eVar 1) (gSeqE 2 (gsCons (gSet (.ex (.sub 1)) 2) (gsCons (gSet (.ex (.sub 1)) 3) gsNil))))
  (sRet true .own (eAnd (eCall f_is_place [] (lCons (eVar 0) (lCons (eVar 2) lNil))) (eAnd (eCall f_is_place [] (lCons (eVar 0) (lCons (eVar 3) lNil))) (ePrim (pEq true) (lCons (eVar 2) (lCons (eVar 3) lNil))))))))
def f_is_pair : FD := callD d_is_pair 4 []
def d_law_pairs_1 : SF := (sDrop (eMut "list" 2 (pName 2) [.own] (lCons (eCall f_law_pair [0] (lCons (eVar 0) (lCons (eVar 1) (lCons (eVar 2) lNil)))) lNil) opApp))
def d_law_pairs : SF := (sSeq (sSet 2 .own (ePrim pLst lNil))
  (sSeq (sFor .own (iRg (rg1 (ePrim pMul (lCons (eCall f_law_take [0] (lCons (eVar 0) (lCons (eC (.int 31)) lNil))) (lCons (ePrim pInt (lCons (ePrim pGt (lCons (eVar 1) (lCons (eC (.int 1)) lNil))) lNil)) lNil))))) (fun b => (gSet (.pr b) 3)) d_law_pairs_1)
  (sRet true (.sub 2) (eVar 2))))
def f_law_pairs : FD := callD d_law_pairs 4 [0]
def d_refuse_layout_1 : SF := (sIf (tfNot (toTr (eCall f_is_pair [] (lCons (eVar 0) (lCons (eVar 4) lNil))))) sNever
  sNext)
def d_refuse_layout : SF := (sSeq (sDrop (eCall f_refuse_size [] (lCons (eVar 0) lNil)))
  (sSeq (sIf (toT (ePrim pGt (lCons (ePrim pLen (lCons (eVar 1) lNil)) (lCons (eVar 2) lNil)))) sNever
  sNext)
  (sFor (.sub 1) (iEnm (eVar 1)) (fun b => (gTupE 2 (gsCons (gSet (.pr b) 3) (gsCons (gSet (.pr b) 4) gsNil)))) d_refuse_layout_1)))
def f_refuse_layout : FD := callD d_refuse_layout 5 []
def d_refuse_layout_501 : SX := (xIf (tfNot (toTr (eCall f_is_pair [] (lCons (eVar 0) (lCons (eVar 4) lNil))))) (xRzI 10 "at" fi_NoTie (lCons (eVar 3) lNil))
  (xL sNext))
def dx_refuse_layout : SX := (xSeq (xDrop (xCall fx_refuse_size (lCons (eVar 0) lNil)))
  (xSeq (xIf (toT (ePrim pGt (lCons (ePrim pLen (lCons (eVar 1) lNil)) (lCons (eVar 2) lNil)))) (xRz 14 (eJoin [(eC (.str "there are more than ")), (eVar 2), (eC (.str " in the list"))]))
  (xL sNext))
  (xFor (.sub 1) (iEnm (eVar 1)) (fun b => (gTupE 2 (gsCons (gSet (.pr b) 3) (gsCons (gSet (.pr b) 4) gsNil)))) d_refuse_layout_501)))
def fx_refuse_layout : FX := callX dx_refuse_layout 5
def d_made_web_2 : EF := (ePrim pTup (lCons (ePrim pMin (lCons (eVar 2) (lCons (eVar 3) lNil))) (lCons (ePrim pMax (lCons (eVar 2) (lCons (eVar 3) lNil))) lNil)))
def d_made_web : SF := (sSeq (sDrop (eCall f_refuse_layout [] (lCons (eVar 0) (lCons (eVar 1) (lCons (eC (.int 30)) lNil)))))
  (sRet true .own (ePrim pTup (lCons (eOwn (.sub 0) (eVar 0)) (lCons (eTupG1 (.sub 1) (iSeq (eVar 1)) (fun b => (gTupE 2 (gsCons (gSet (.pr b) 2) (gsCons (gSet (.pr b) 3) gsNil)))) tYesF d_made_web_2 [2, 3]) lNil)))))
def f_made_web : FD := callD d_made_web 4 []
def d_made_web_502 : EF := (ePrim pTup (lCons (ePrim pMin (lCons (eVar 2) (lCons (eVar 3) lNil))) (lCons (ePrim pMax (lCons (eVar 2) (lCons (eVar 3) lNil))) lNil)))
def dx_made_web : SX := (xSeq (xDrop (xCall fx_refuse_layout (lCons (eVar 0) (lCons (eVar 1) (lCons (eC (.int 30)) lNil)))))
  (xL (sRet true .own (ePrim pTup (lCons (eOwn (.sub 0) (eVar 0)) (lCons (eTupG1 (.sub 1) (iSeq (eVar 1)) (fun b => (gTupE 2 (gsCons (gSet (.pr b) 2) (gsCons (gSet (.pr b) 3) gsNil)))) tYesF d_made_web_502 [2, 3]) lNil))))))
def fx_made_web : FX := callX dx_made_web 4
def d_law_told_1 : SX := (xDrop (xCall fx_made_web (lCons (eVar 0) (lCons (eVar 1) lNil))))
def d_law_told_2 : SF := (sSet 2 .own (eCall f_law_words [] (lCons (eVar 3) lNil)))
def d_law_told : SF := (sSeq (sSet 2 .own (ePrim pTup (lCons (eC (.str "let")) lNil)))
  (sSeq (sTry [10, 13, 14] 3 d_law_told_1 d_law_told_2)
  (sRet true (.sub 2) (eVar 2))))
def f_law_told : FD := callD d_law_told 4 []
def d_law_1 : SF := (sSeq (sSet 8 .own (eCall f_law_odd [2] (lCons (eVar 2) (lCons (eVar 3) lNil))))
  (sMvIns 5 8 (eCall f_law_take [2] (lCons (eVar 2) (lCons (ePrim pAdd (lCons (ePrim pLen (lCons (eVar 5) lNil)) (lCons (eC (.int 1)) lNil))) lNil)))))
def d_law_2 : EF := (eVar 14)
def d_law_3 : TF := (tfNot (toTr (eCall f_law_is_pair [] (lCons (eVar 3) (lCons (eVar 15) lNil)))))
def d_law_4 : EF := (ePrim pTup (lCons (ePrim pMin (lCons (eVar 16) lNil)) (lCons (ePrim pMax (lCons (eVar 16) lNil)) lNil)))
def d_law_5 : SF := (sSeq (sSet 2 .own (eCall f_law_pot [] (lCons (eVar 0) (lCons (eVar 1) lNil))))
  (sSeq (sSet 3 .own (ePrim pAdd (lCons (eC (.int 1)) (lCons (eCall f_law_take [2] (lCons (eVar 2) (lCons (eC (.int 9)) lNil))) lNil))))
  (sSeq (sSet 4 .own (eCall f_law_no_places [2] (lCons (eVar 2) lNil)))
  (sSeq (sSet 5 .own (eSliceA (eCall f_law_pairs [2] (lCons (eVar 2) (lCons (eVar 3) lNil))) oNone (oSome (eC (.int 27)))))
  (sSeq (sSet 6 (.top [5]) (ePrim pTuple (lCons (eVar 5) lNil)))
  (sSeq (sFor .own (iRg (rg1 (ePrim pAdd (lCons (eC (.int 1)) (lCons (eCall f_law_take [2] (lCons (eVar 2) (lCons (eC (.int 3)) lNil))) lNil))))) (fun b => (gSet (.pr b) 7)) d_law_1)
  (sSeq (sSet 9 .own (ePrim pReprX (lCons (eVar 5) lNil)))
  (sSeq (sSet 10 (.vw [5]) (ePrim pIx (lCons (eLc (.sub 5) (iEnm (eVar 5)) (fun b => (gTupE 2 (gsCons (gSet (.pr b) 14) (gsCons (gSet (.pr b) 15) gsNil)))) d_law_3 d_law_2 [14, 15] []) (lCons (eC (.int 0)) lNil))))
  (sSeq (sSet 11 (.top [5]) (eSliceA (ePrim pMulN (lCons (eVar 5) (lCons (eC (.int 40)) lNil))) oNone (oSome (ePrim pAdd (lCons (eC (.int 31)) (lCons (eCall f_law_take [2] (lCons (eVar 2) (lCons (eC (.int 10)) lNil))) lNil))))))
  (sSeq (sSet 12 .own (ePrim pLst (lCons (eCall f_law_told [] (lCons (eVar 4) (lCons (eVar 11) lNil))) (lCons (eCall f_law_told [] (lCons (eVar 4) (lCons (eVar 6) lNil))) (lCons (eCall f_law_told [] (lCons (eVar 3) (lCons (eVar 11) lNil))) (lCons (eCall f_law_told [] (lCons (eVar 3) (lCons (eVar 5) lNil))) lNil))))))
  (sSeq (sIf (tfOr (toT (ePrim (pEq true) (lCons (ePrim pReprX (lCons (eVar 12) lNil)) (lCons (ePrim pReprX (lCons (ePrim pLst (lCons (ePrim pTup (lCons (eC (.str "web")) lNil)) (lCons (ePrim pTup (lCons (eC (.str "web")) lNil)) (lCons (ePrim pTup (lCons (eC (.str "many")) lNil)) (lCons (ePrim pTup (lCons (eC (.str "tie")) (lCons (eVar 10) lNil))) lNil))))) lNil)) lNil)))) (toT (ePrim (pEq true) (lCons (ePrim pReprX (lCons (eVar 5) lNil)) (lCons (eVar 9) lNil))))) (sRet true .own (eC (.bl false)))
  sNext)
  (sSeq (sIf (toT (ePrim (pEq true) (lCons (ePrim pReprX (lCons (eCall f_law_told [] (lCons (eVar 3) (lCons (ePrim pTuple (lCons (eVar 5) lNil)) lNil))) lNil)) (lCons (ePrim pReprX (lCons (ePrim pTup (lCons (eC (.str "tie")) (lCons (eVar 10) lNil))) lNil)) lNil)))) (sRet true .own (eC (.bl false)))
  sNext)
  (sSeq (sSet 13 (.top [3]) (ePrim pTup (lCons (eVar 3) (lCons (ePrim pTuple (lCons (eLc (.sub 6) (iSeq (eVar 6)) (fun b => (gSet (.pr b) 16)) tYesF d_law_4 [16] []) lNil)) lNil))))
  (sIf (tfOr (toT (ePrim (pEq true) (lCons (eCall f_law_told [] (lCons (eVar 3) (lCons (eSliceA (ePrim pMulE (lCons (eVar 6) (lCons (eC (.int 30)) lNil))) oNone (oSome (eC (.int 30)))) lNil))) (lCons (ePrim pTup (lCons (eC (.str "let")) lNil)) lNil)))) (toT (ePrim (pEq true) (lCons (eCall f_made_web [] (lCons (eVar 3) (lCons (eVar 6) lNil))) (lCons (eVar 13) lNil))))) (sRet true .own (eC (.bl false)))
  sNext))))))))))))))
def d_law : SF := (sSeq (sFor .own (iRg (rg1 (ePrim pMax (lCons (eC (.int 1)) (lCons (ePrim pMin (lCons (eC (.int 8)) (lCons (ePrim pLen (lCons (eVar 0) lNil)) lNil))) lNil))))) (fun b => (gSet (.pr b) 1)) d_law_5)
  (sRet true .own (eC (.bl true))))
def f_law : FD := callD d_law 17 []
end
end VL
set_option maxHeartbeats 8000000
namespace VL
open PySem PySem.Spec PyProof.Rows L2
open GxR (TabB TabG Tabbed)
def topS (i : Nat) : Stmt := PySem.Challenge.pw_treesapart_k12_no_webs.main.body.getD i (.Pass ⟨0, 0, 0, 0⟩)
abbrev s_is_whole : Stmt := topS 20
abbrev s_is_place : Stmt := topS 21
abbrev s_is_pair : Stmt := topS 22
abbrev s_refuse_size : Stmt := topS 23
abbrev s_refuse_layout : Stmt := topS 24
abbrev s_made_web : Stmt := topS 25
abbrev s_law_nth : Stmt := topS 27
abbrev s_law_pot : Stmt := topS 28
abbrev s_law_take : Stmt := topS 29
abbrev s_law_pair : Stmt := topS 30
abbrev s_law_pairs : Stmt := topS 31
abbrev s_law_is_whole : Stmt := topS 32
abbrev s_law_is_pair : Stmt := topS 33
abbrev s_law_odd : Stmt := topS 34
abbrev s_law_no_places : Stmt := topS 35
abbrev s_law_is_other : Stmt := topS 36
abbrev s_law_words : Stmt := topS 37
abbrev s_law_told : Stmt := topS 38
abbrev s_law : Stmt := topS 39
def clsBody (s : Stmt) : List Stmt := match s with
  | .ClassDef _ _ _ b _ _ _ _ _ _ _ => b
  | _ => []
abbrev s_i_NoTie : Stmt := (clsBody (topS 4)).getD 0 (.Pass ⟨0, 0, 0, 0⟩)
structure Fx (G : Gb) (mg : Str → Option Value) (b0 : Heap) (P : Program) where
  a_is_whole : Addr
  fd_is_whole : FuncData
  F_is_whole : Fun G.K "is_whole" "is_whole" s_is_whole a_is_whole fd_is_whole
  b_is_whole : Binds G.K fd_is_whole ["thing"] []
  g_is_whole : mg "is_whole" = some (.ref a_is_whole)
  a_is_place : Addr
  fd_is_place : FuncData
  F_is_place : Fun G.K "is_place" "is_place" s_is_place a_is_place fd_is_place
  b_is_place : Binds G.K fd_is_place ["places", "thing"] []
  g_is_place : mg "is_place" = some (.ref a_is_place)
  a_is_pair : Addr
  fd_is_pair : FuncData
  F_is_pair : Fun G.K "is_pair" "is_pair" s_is_pair a_is_pair fd_is_pair
  b_is_pair : Binds G.K fd_is_pair ["places", "thing"] []
  g_is_pair : mg "is_pair" = some (.ref a_is_pair)
  a_refuse_size : Addr
  fd_refuse_size : FuncData
  F_refuse_size : Fun G.K "refuse_size" "refuse_size" s_refuse_size a_refuse_size fd_refuse_size
  b_refuse_size : Binds G.K fd_refuse_size ["places"] []
  g_refuse_size : mg "refuse_size" = some (.ref a_refuse_size)
  a_refuse_layout : Addr
  fd_refuse_layout : FuncData
  F_refuse_layout : Fun G.K "refuse_layout" "refuse_layout" s_refuse_layout a_refuse_layout fd_refuse_layout
  b_refuse_layout : Binds G.K fd_refuse_layout ["places", "pairs", "most"] []
  g_refuse_layout : mg "refuse_layout" = some (.ref a_refuse_layout)
  a_made_web : Addr
  fd_made_web : FuncData
  F_made_web : Fun G.K "made_web" "made_web" s_made_web a_made_web fd_made_web
  b_made_web : Binds G.K fd_made_web ["places", "ties"] []
  g_made_web : mg "made_web" = some (.ref a_made_web)
  c_made_web : Addr
  T_made_web : Addr
  h_made_web : fd_made_web.code = .ref c_made_web
  t_made_web : T_made_web ∈ G.tabs ∧ LamT.is T_made_web = false
  B_made_web : TabB b0 mg c_made_web T_made_web
  a_law_nth : Addr
  fd_law_nth : FuncData
  F_law_nth : Fun G.K "_law_nth" "_law_nth" s_law_nth a_law_nth fd_law_nth
  b_law_nth : Binds G.K fd_law_nth ["_law_script", "_law_k"] []
  g_law_nth : mg "_law_nth" = some (.ref a_law_nth)
  a_law_pot : Addr
  fd_law_pot : FuncData
  F_law_pot : Fun G.K "_law_pot" "_law_pot" s_law_pot a_law_pot fd_law_pot
  b_law_pot : Binds G.K fd_law_pot ["_law_script", "_law_k"] []
  g_law_pot : mg "_law_pot" = some (.ref a_law_pot)
  a_law_take : Addr
  fd_law_take : FuncData
  F_law_take : Fun G.K "_law_take" "_law_take" s_law_take a_law_take fd_law_take
  b_law_take : Binds G.K fd_law_take ["_law_pot_here", "_law_many"] []
  g_law_take : mg "_law_take" = some (.ref a_law_take)
  a_law_pair : Addr
  fd_law_pair : FuncData
  F_law_pair : Fun G.K "_law_pair" "_law_pair" s_law_pair a_law_pair fd_law_pair
  b_law_pair : Binds G.K fd_law_pair ["_law_pot_here", "_law_places", "_law_found"] []
  g_law_pair : mg "_law_pair" = some (.ref a_law_pair)
  a_law_pairs : Addr
  fd_law_pairs : FuncData
  F_law_pairs : Fun G.K "_law_pairs" "_law_pairs" s_law_pairs a_law_pairs fd_law_pairs
  b_law_pairs : Binds G.K fd_law_pairs ["_law_pot_here", "_law_places"] []
  g_law_pairs : mg "_law_pairs" = some (.ref a_law_pairs)
  a_law_is_whole : Addr
  fd_law_is_whole : FuncData
  F_law_is_whole : Fun G.K "_law_is_whole" "_law_is_whole" s_law_is_whole a_law_is_whole fd_law_is_whole
  b_law_is_whole : Binds G.K fd_law_is_whole ["_law_thing"] []
  g_law_is_whole : mg "_law_is_whole" = some (.ref a_law_is_whole)
  a_law_is_pair : Addr
  fd_law_is_pair : FuncData
  F_law_is_pair : Fun G.K "_law_is_pair" "_law_is_pair" s_law_is_pair a_law_is_pair fd_law_is_pair
  b_law_is_pair : Binds G.K fd_law_is_pair ["_law_places", "_law_thing"] []
  g_law_is_pair : mg "_law_is_pair" = some (.ref a_law_is_pair)
  a_law_odd : Addr
  fd_law_odd : FuncData
  F_law_odd : Fun G.K "_law_odd" "_law_odd" s_law_odd a_law_odd fd_law_odd
  b_law_odd : Binds G.K fd_law_odd ["_law_pot_here", "_law_places"] []
  g_law_odd : mg "_law_odd" = some (.ref a_law_odd)
  a_law_no_places : Addr
  fd_law_no_places : FuncData
  F_law_no_places : Fun G.K "_law_no_places" "_law_no_places" s_law_no_places a_law_no_places fd_law_no_places
  b_law_no_places : Binds G.K fd_law_no_places ["_law_pot_here"] []
  g_law_no_places : mg "_law_no_places" = some (.ref a_law_no_places)
  a_law_is_other : Addr
  fd_law_is_other : FuncData
  F_law_is_other : Fun G.K "_law_is_other" "_law_is_other" s_law_is_other a_law_is_other fd_law_is_other
  b_law_is_other : Binds G.K fd_law_is_other ["_law_e"] []
  g_law_is_other : mg "_law_is_other" = some (.ref a_law_is_other)
  a_law_words : Addr
  fd_law_words : FuncData
  F_law_words : Fun G.K "_law_words" "_law_words" s_law_words a_law_words fd_law_words
  b_law_words : Binds G.K fd_law_words ["_law_e"] []
  g_law_words : mg "_law_words" = some (.ref a_law_words)
  a_law_told : Addr
  fd_law_told : FuncData
  F_law_told : Fun G.K "_law_told" "_law_told" s_law_told a_law_told fd_law_told
  b_law_told : Binds G.K fd_law_told ["_law_places", "_law_ties"] []
  g_law_told : mg "_law_told" = some (.ref a_law_told)
  a_law : Addr
  fd_law : FuncData
  F_law : Fun G.K "law" "law" s_law a_law fd_law
  b_law : Binds G.K fd_law ["_law_script"] []
  g_law : mg "law" = some (.ref a_law)
  m_ValueError : mg "ValueError" = none
  m_abs : mg "abs" = none
  m_bool : mg "bool" = none
  m_divmod : mg "divmod" = none
  m_enumerate : mg "enumerate" = none
  m_int : mg "int" = none
  m_isinstance : mg "isinstance" = none
  m_len : mg "len" = none
  m_max : mg "max" = none
  m_min : mg "min" = none
  m_range : mg "range" = none
  m_repr : mg "repr" = none
  m_super : mg "super" = none
  m_tuple : mg "tuple" = none
  hot0 : G.hot = none
  ec : ∀ c ∈ ([10, 13, 14] : List Nat), ExcC G.K (G.cls c)
  gE_Held : mg "Held" = some (.ref (G.cls 0))
  gE_NoCount : mg "NoCount" = some (.ref (G.cls 1))
  gE_NoDeed : mg "NoDeed" = some (.ref (G.cls 2))
  gE_NoMost : mg "NoMost" = some (.ref (G.cls 3))
  gE_NoName : mg "NoName" = some (.ref (G.cls 4))
  gE_NoPlace : mg "NoPlace" = some (.ref (G.cls 5))
  gE_NoRow : mg "NoRow" = some (.ref (G.cls 6))
  gE_NoSpreads : mg "NoSpreads" = some (.ref (G.cls 7))
  gE_NoStrengths : mg "NoStrengths" = some (.ref (G.cls 8))
  gE_NoSuch : mg "NoSuch" = some (.ref (G.cls 9))
  gE_NoTie : mg "NoTie" = some (.ref (G.cls 10))
  gE_NoTrees : mg "NoTrees" = some (.ref (G.cls 11))
  gE_NoWeb : mg "NoWeb" = some (.ref (G.cls 13))
  gE_NotHeld : mg "NotHeld" = some (.ref (G.cls 12))
  gE_TooMany : mg "TooMany" = some (.ref (G.cls 14))
  gE_TreeError : mg "TreeError" = some (.ref (G.cls 15))
  em_TreeError : ∀ c ∈ ([10, 13, 14] : List Nat), PySem.W.exmOne G.K (.ref (G.cls c)) (.ref (G.cls 15)) = some true
  kit_Held : ∀ c ∈ ([10, 13, 14] : List Nat), PySem.W.kitOne G.K (.ref (G.cls c)) (.ref (G.cls 0)) = some (decide (c = 0))
  kit_NoCount : ∀ c ∈ ([10, 13, 14] : List Nat), PySem.W.kitOne G.K (.ref (G.cls c)) (.ref (G.cls 1)) = some (decide (c = 1))
  kit_NoDeed : ∀ c ∈ ([10, 13, 14] : List Nat), PySem.W.kitOne G.K (.ref (G.cls c)) (.ref (G.cls 2)) = some (decide (c = 2))
  kit_NoMost : ∀ c ∈ ([10, 13, 14] : List Nat), PySem.W.kitOne G.K (.ref (G.cls c)) (.ref (G.cls 3)) = some (decide (c = 3))
  kit_NoName : ∀ c ∈ ([10, 13, 14] : List Nat), PySem.W.kitOne G.K (.ref (G.cls c)) (.ref (G.cls 4)) = some (decide (c = 4))
  kit_NoPlace : ∀ c ∈ ([10, 13, 14] : List Nat), PySem.W.kitOne G.K (.ref (G.cls c)) (.ref (G.cls 5)) = some (decide (c = 5))
  kit_NoRow : ∀ c ∈ ([10, 13, 14] : List Nat), PySem.W.kitOne G.K (.ref (G.cls c)) (.ref (G.cls 6)) = some (decide (c = 6))
  kit_NoSpreads : ∀ c ∈ ([10, 13, 14] : List Nat), PySem.W.kitOne G.K (.ref (G.cls c)) (.ref (G.cls 7)) = some (decide (c = 7))
  kit_NoStrengths : ∀ c ∈ ([10, 13, 14] : List Nat), PySem.W.kitOne G.K (.ref (G.cls c)) (.ref (G.cls 8)) = some (decide (c = 8))
  kit_NoSuch : ∀ c ∈ ([10, 13, 14] : List Nat), PySem.W.kitOne G.K (.ref (G.cls c)) (.ref (G.cls 9)) = some (decide (c = 9))
  kit_NoTie : ∀ c ∈ ([10, 13, 14] : List Nat), PySem.W.kitOne G.K (.ref (G.cls c)) (.ref (G.cls 10)) = some (decide (c = 10))
  kit_NoTrees : ∀ c ∈ ([10, 13, 14] : List Nat), PySem.W.kitOne G.K (.ref (G.cls c)) (.ref (G.cls 11)) = some (decide (c = 11))
  kit_NoWeb : ∀ c ∈ ([10, 13, 14] : List Nat), PySem.W.kitOne G.K (.ref (G.cls c)) (.ref (G.cls 13)) = some (decide (c = 13))
  kit_NotHeld : ∀ c ∈ ([10, 13, 14] : List Nat), PySem.W.kitOne G.K (.ref (G.cls c)) (.ref (G.cls 12)) = some (decide (c = 12))
  kit_TooMany : ∀ c ∈ ([10, 13, 14] : List Nat), PySem.W.kitOne G.K (.ref (G.cls c)) (.ref (G.cls 14)) = some (decide (c = 14))
  kit_ValueError : ∀ c ∈ ([10, 13, 14] : List Nat), PySem.W.kitOne G.K (.ref (G.cls c)) (.type "ValueError") = some true
  no_at : ∀ c ∈ ([10, 13, 14] : List Nat), PySem.W.findIn G.K (.ref (G.cls c)) "at" = some none
  Ia_NoTie : Addr
  If_NoTie : FuncData
  I_NoTie : OInit P G.K mg (G.cls 10) "NoTie.__init__" s_i_NoTie Ia_NoTie If_NoTie
  Ib_NoTie : Binds G.K If_NoTie ["self", "at"] []
  o_NoTie : OexC G.K (G.cls 10)
  z_NoTie : RzC G mg "NoTie" 10
  z_NoWeb : RzC G mg "NoWeb" 13
  q_NoWeb : PySem.W.excIn G.K (G.cls 13) [.type "ValueError", .type "Exception", .type "BaseException", .type "object"] "ValueError.__new__" = true
  z_TooMany : RzC G mg "TooMany" 14
  q_TooMany : PySem.W.excIn G.K (G.cls 14) [.type "ValueError", .type "Exception", .type "BaseException", .type "object"] "ValueError.__new__" = true
  c_MOST_PLACES : ∃ t, mg "MOST_PLACES" = some (.int 9 t)
  c_MOST_TIES : ∃ t, mg "MOST_TIES" = some (.int 30 t)
noncomputable section
variable {P : Program} {w : World} {G : Gb} {mg : Str → Option Value} {b0 : Heap}
abbrev n_i_NoTie : List Str := ["self", "at"]
theorem sc_i_NoTie : TA.SupScope n_i_NoTie ["self", "at"] (defScope s_i_NoTie) "self" := ⟨rfl, rfl, rfl, by decide +kernel, rfl, by decide +kernel, by decide +kernel, by decide +kernel, by decide +kernel, by decide +kernel, rfl⟩
theorem oki_NoTie (Q : Fx G mg b0 P) : FnOk P w G.K mg b0 CX0 1 Q.Ia_NoTie Q.If_NoTie ["self", "at"] (spI G (G.cls 10) "at" 2 fi_NoTie) := by
  obtain ⟨cd, cc, dV, kV, dc, pm, ct, oc, an, od, sl, e, lk, hcd, T⟩ := Q.I_NoTie.ex
  rw [e] at lk ⊢
  refine TA.fn_sup (N := n_i_NoTie) lk hcd T sc_i_NoTie rfl rfl (fun _ => rfl) (fun _ => rfl) (fun _ => rfl) (fun _ => rfl) (fun _ => rfl) spI_len (fun B ou s H vs R E hr h => ?_)
  have x : XOk G (TA.cxS P w G.K mg b0 n_i_NoTie "NoTie.__init__" (defScope s_i_NoTie) Q.Ia_NoTie cd cc B ou s H E) := ⟨rfl, rfl, show (B.deeper _).units + 70 < cLine by have := hr.un; omega⟩
  obtain ⟨a, ws, e1, e2, h'⟩ := post_init (X := TA.cxS P w G.K mg b0 n_i_NoTie "NoTie.__init__" (defScope s_i_NoTie) Q.Ia_NoTie cd cc B ou s H E) (to := .Constant .none 0 ⟨0, 0, 0, 0⟩) (k1 := .own) (k := .own) (N := n_i_NoTie) rfl T.oex (Q.no_at 10 (by decide)) (by decide) (by decide) h
  exact ⟨a, ws, _, _, e1, e2, (vl_cons (ve_join (VJ.str (VJ.fmt (ve_var (pv 1)) (VJ.str VJ.nil)))) vl_nil), pss_one (ps_ost (pv 0) (ve_own (ve_var (pv 1)))), h'⟩
abbrev n_is_whole : List Str := ["thing"]
theorem sc_is_whole : FnScope n_is_whole ["thing"] (defScope s_is_whole) := ⟨rfl, rfl, rfl, by decide +kernel, rfl, by decide +kernel, by decide +kernel⟩
theorem ok_is_whole (Q : Fx G mg b0 P) : TA.FnG P w G.K mg b0 CX0 1 Q.a_is_whole Q.fd_is_whole ["thing"] (spV G [] true 1 f_is_whole) :=
  fnV (S := d_is_whole) (N := n_is_whole) Q.F_is_whole sc_is_whole (by decide) (by decide) fun cd B ou s H E x hg hr =>
    (vss_one (vs_ret (ve_and x (ve_isi (T := "int") x (by rfl) Q.m_isinstance (by rfl) Q.m_int (by decide) (by decide +kernel) (ve_var (pv 0))) (ve_one (ve_not x (ve_isi (T := "bool") x (by rfl) Q.m_isinstance (by rfl) Q.m_bool (by decide) (by decide +kernel) (ve_var (pv 0))))))))
abbrev n_law_nth : List Str := ["_law_script", "_law_k"]
theorem sc_law_nth : FnScope n_law_nth ["_law_script", "_law_k"] (defScope s_law_nth) := ⟨rfl, rfl, rfl, by decide +kernel, rfl, by decide +kernel, by decide +kernel⟩
theorem ok_law_nth (Q : Fx G mg b0 P) : TA.FnG P w G.K mg b0 CX0 1 Q.a_law_nth Q.fd_law_nth ["_law_script", "_law_k"] (spV G [] true 2 f_law_nth) :=
  fnV (S := d_law_nth) (N := n_law_nth) Q.F_law_nth sc_law_nth (by decide) (by decide) fun cd B ou s H E x hg hr =>
    (vss_one (vs_ret (ve_if (vt_cmp op_lt prim_lt (ve_var (pv 1)) (ve_callB call_lenAll (prim_len x.K) (by rfl) Q.m_len (by decide +kernel) (vl_cons (ve_var (pv 0)) vl_nil)) (nomark _)) (ve_sub x (ve_var (pv 0)) (ve_var (pv 1))) ve_int)))
abbrev n_law_take : List Str := ["_law_pot_here", "_law_many", "_law_digit"]
theorem sc_law_take : FnScope n_law_take ["_law_pot_here", "_law_many"] (defScope s_law_take) := ⟨rfl, rfl, rfl, by decide +kernel, rfl, by decide +kernel, by decide +kernel⟩
theorem ok_law_take (Q : Fx G mg b0 P) : TA.FnG P w G.K mg b0 CX0 1 Q.a_law_take Q.fd_law_take ["_law_pot_here", "_law_many"] (spV G [0] true 2 f_law_take) :=
  fnV (S := d_law_take) (N := n_law_take) Q.F_law_take sc_law_take (by decide) (by decide) fun cd B ou s H E x hg hr =>
    (vss_cons (vs_if (vt_cmp op_gt prim_gt (ve_sub x (ve_var (pv 0)) ve_int) ve_int (nomark _)) (vss_cons (vs_pairSet (j := 2) x (ve_callB call_divmod prim_divmod (by rfl) Q.m_divmod (by decide +kernel) (vl_cons (ve_sub x (ve_var (pv 0)) ve_int) (vl_cons (ve_var (pv 1)) vl_nil))) (vp_name (pv 0)) ve_int sc_law_take.nd rfl (by first | exact .inl rfl | exact .inr rfl))
    (vss_one (vs_ret (ve_var (pv 2)))))
    vss_nil)
    (vss_cons (vs_setItem x (ve_op op_mod prim_mod (ve_opV op_addAll prim_add (ve_op op_mulAll prim_mul (ve_sub x (ve_var (pv 0)) ve_int) ve_int) ve_int) ve_int) (vp_name (pv 0)) ve_int)
    (vss_one (vs_ret (ve_op op_mod prim_mod (ve_op op_fdiv prim_fdiv (ve_op op_mod prim_mod (ve_op op_mulAll prim_mul (ve_sub x (ve_var (pv 0)) ve_int) (ve_sub x (ve_var (pv 0)) ve_int)) ve_int) ve_int) (ve_var (pv 1)))))))
abbrev n_law_is_whole : List Str := ["_law_thing"]
theorem sc_law_is_whole : FnScope n_law_is_whole ["_law_thing"] (defScope s_law_is_whole) := ⟨rfl, rfl, rfl, by decide +kernel, rfl, by decide +kernel, by decide +kernel⟩
theorem ok_law_is_whole (Q : Fx G mg b0 P) : TA.FnG P w G.K mg b0 CX0 1 Q.a_law_is_whole Q.fd_law_is_whole ["_law_thing"] (spV G [] true 1 f_law_is_whole) :=
  fnV (S := d_law_is_whole) (N := n_law_is_whole) Q.F_law_is_whole sc_law_is_whole (by decide) (by decide) fun cd B ou s H E x hg hr =>
    (vss_one (vs_ret (ve_and x (ve_isi (T := "int") x (by rfl) Q.m_isinstance (by rfl) Q.m_int (by decide) (by decide +kernel) (ve_var (pv 0))) (ve_one (ve_not x (ve_isi (T := "bool") x (by rfl) Q.m_isinstance (by rfl) Q.m_bool (by decide) (by decide +kernel) (ve_var (pv 0))))))))
abbrev n_law_is_other : List Str := ["_law_e"]
theorem sc_law_is_other : FnScope n_law_is_other ["_law_e"] (defScope s_law_is_other) := ⟨rfl, rfl, rfl, by decide +kernel, rfl, by decide +kernel, by decide +kernel⟩
theorem okh_law_is_other (Q : Fx G mg b0 P) {a : Addr} {c : Nat} {d : Option Addr} {oe : Obj} (hc : c ∈ ([10, 13, 14] : List Nat)) (hz : Zc (.ref (G.cls c)) d oe) (ec : ExcC G.K (G.cls c)) : TA.FnP (a, oe) P w G.K mg b0 1 Q.a_law_is_other Q.fd_law_is_other ["_law_e"] (spV (G.heat (a, c, d)) [] true 1 f_law_is_other) :=
  fnVP (S := d_law_is_other) (N := n_law_is_other) Q.F_law_is_other sc_law_is_other (by decide) hc hz ec fun cd A ou s H E xh hr =>
    (vss_cons (vs_if (vt_truthU xh.u (ve_isxT (ts := fun c => [decide (c = 0), decide (c = 1), decide (c = 2), decide (c = 3), decide (c = 4), decide (c = 5)]) xh (pv 0) (pe_tup (pa_cons (pe_glob (v := .ref _) (by rfl) Q.gE_Held rfl) (pa_cons (pe_glob (v := .ref _) (by rfl) Q.gE_NoCount rfl) (pa_cons (pe_glob (v := .ref _) (by rfl) Q.gE_NoDeed rfl) (pa_cons (pe_glob (v := .ref _) (by rfl) Q.gE_NoMost rfl) (pa_cons (pe_glob (v := .ref _) (by rfl) Q.gE_NoName rfl) (pa_cons (pe_glob (v := .ref _) (by rfl) Q.gE_NoPlace rfl) pa_nil))))))) (fun _ _ _ h => h) (Nat.le_of_ble_eq_true rfl) (.cons (.own _) (.cons (.own _) (.cons (.own _) (.cons (.own _) (.cons (.own _) (.cons (.own _) .nil)))))) (fun c hc => (And.intro (Q.kit_Held c hc) (And.intro (Q.kit_NoCount c hc) (And.intro (Q.kit_NoDeed c hc) (And.intro (Q.kit_NoMost c hc) (And.intro (Q.kit_NoName c hc) (And.intro (Q.kit_NoPlace c hc) trivial))))))) (by rfl) Q.m_isinstance)) (vss_one (vs_ret ve_bl))
    vss_nil)
    (vss_one (vs_ret (ve_isxT (ts := fun c => [decide (c = 6), decide (c = 7), decide (c = 8), decide (c = 9), decide (c = 12), decide (c = 11)]) xh (pv 0) (pe_tup (pa_cons (pe_glob (v := .ref _) (by rfl) Q.gE_NoRow rfl) (pa_cons (pe_glob (v := .ref _) (by rfl) Q.gE_NoSpreads rfl) (pa_cons (pe_glob (v := .ref _) (by rfl) Q.gE_NoStrengths rfl) (pa_cons (pe_glob (v := .ref _) (by rfl) Q.gE_NoSuch rfl) (pa_cons (pe_glob (v := .ref _) (by rfl) Q.gE_NotHeld rfl) (pa_cons (pe_glob (v := .ref _) (by rfl) Q.gE_NoTrees rfl) pa_nil))))))) (fun _ _ _ h => h) (Nat.le_of_ble_eq_true rfl) (.cons (.own _) (.cons (.own _) (.cons (.own _) (.cons (.own _) (.cons (.own _) (.cons (.own _) .nil)))))) (fun c hc => (And.intro (Q.kit_NoRow c hc) (And.intro (Q.kit_NoSpreads c hc) (And.intro (Q.kit_NoStrengths c hc) (And.intro (Q.kit_NoSuch c hc) (And.intro (Q.kit_NotHeld c hc) (And.intro (Q.kit_NoTrees c hc) trivial))))))) (by rfl) Q.m_isinstance))))
abbrev n_is_place : List Str := ["places", "thing"]
theorem sc_is_place : FnScope n_is_place ["places", "thing"] (defScope s_is_place) := ⟨rfl, rfl, rfl, by decide +kernel, rfl, by decide +kernel, by decide +kernel⟩
theorem ok_is_place (Q : Fx G mg b0 P) : TA.FnG P w G.K mg b0 CX0 2 Q.a_is_place Q.fd_is_place ["places", "thing"] (spV G [] true 2 f_is_place) :=
  fnV (S := d_is_place) (N := n_is_place) Q.F_is_place sc_is_place (by decide) (by decide) fun cd B ou s H E x hg hr =>
    (vss_one (vs_ret (ve_and x (ve_call (ro := true) (k := 1) (ok_is_whole Q) hg (hr.mono (by decide)) (by rfl) Q.g_is_whole Q.F_is_whole.kp Q.b_is_whole pass0 [] (vl_cons (ve_var (pv 1)) vl_nil)) (ve_one (ve_chain (o1 := (fun i j => decide (i ≤ j))) (o2 := (fun i j => decide (i < j))) op_le op_lt ve_int (ve_var (pv 1)) (ve_var (pv 0)))))))
abbrev n_refuse_size : List Str := ["places"]
theorem sc_refuse_size : FnScope n_refuse_size ["places"] (defScope s_refuse_size) := ⟨rfl, rfl, rfl, by decide +kernel, rfl, by decide +kernel, by decide +kernel⟩
theorem ok_refuse_size (Q : Fx G mg b0 P) : TA.FnG P w G.K mg b0 CX0 2 Q.a_refuse_size Q.fd_refuse_size ["places"] (spV G [] true 1 f_refuse_size) :=
  fnV (S := d_refuse_size) (N := n_refuse_size) Q.F_refuse_size sc_refuse_size (by decide) (by decide) fun cd B ou s H E x hg hr =>
    (vss_one (vs_if (vt_w (vw_or (vt_not (vt_truth x (ve_call (ro := true) (k := 1) (ok_is_whole Q) hg (hr.mono (by decide)) (by rfl) Q.g_is_whole Q.F_is_whole.kp Q.b_is_whole pass0 [] (vl_cons (ve_var (pv 0)) vl_nil)))) (vw_or1 (vt_not (vt_chain (o1 := (fun i j => decide (i ≤ j))) (o2 := (fun i j => decide (i ≤ j))) op_le op_le ve_int (ve_var (pv 0)) (ve_gi (by rfl) Q.c_MOST_PLACES)))))) (vss_one vs_never)
    vss_nil))
theorem okx_refuse_size (Q : Fx G mg b0 P) : TA.FnG P w G.K mg b0 (L2N.CX P w) 2 Q.a_refuse_size Q.fd_refuse_size ["places"] (spX G true 1 fx_refuse_size) :=
  fnX (S := dx_refuse_size) (N := n_refuse_size) Q.F_refuse_size sc_refuse_size (by decide) fun cd B ou s H E W x hg hr hp tk =>
    (vxs_one (vx_if (vt_w (vw_or (vt_not (vt_truth x (ve_call (ro := true) (k := 1) (ok_is_whole Q) hg (hr.mono (by decide)) (by rfl) Q.g_is_whole Q.F_is_whole.kp Q.b_is_whole pass0 [] (vl_cons (ve_var (pv 0)) vl_nil)))) (vw_or1 (vt_not (vt_chain (o1 := (fun i j => decide (i ≤ j))) (o2 := (fun i j => decide (i ≤ j))) op_le op_le ve_int (ve_var (pv 0)) (ve_gi (by rfl) Q.c_MOST_PLACES)))))) (vxs_one (vx_raise x tk PySem.F.excBase_ValueError Q.z_NoWeb Q.q_NoWeb (by rfl) (ve_join (VJ.str (VJ.fmt (ve_gi (by rfl) Q.c_MOST_PLACES) VJ.nil)))))
    (vxs_of vss_nil)))
abbrev n_law_pot : List Str := ["_law_script", "_law_k", "_law_cell"]
theorem sc_law_pot : FnScope n_law_pot ["_law_script", "_law_k"] (defScope s_law_pot) := ⟨rfl, rfl, rfl, by decide +kernel, rfl, by decide +kernel, by decide +kernel⟩
theorem ok_law_pot (Q : Fx G mg b0 P) : TA.FnG P w G.K mg b0 CX0 2 Q.a_law_pot Q.fd_law_pot ["_law_script", "_law_k"] (spV G [] true 2 f_law_pot) :=
  fnV (S := d_law_pot) (N := n_law_pot) Q.F_law_pot sc_law_pot (by decide) (by decide) fun cd B ou s H E x hg hr =>
    (vss_cons (vs_set (i := 2) sc_law_pot.nd rfl (by first | exact .inl rfl | exact .inr rfl) (ve_call (ro := true) (k := 1) (ok_law_nth Q) hg (hr.mono (by decide)) (by rfl) Q.g_law_nth Q.F_law_nth.kp Q.b_law_nth pass0 [] (vl_cons (ve_var (pv 0)) (vl_cons (ve_var (pv 1)) vl_nil))))
    (vss_one (vs_ret (ve_lst (vl_cons (ve_callB (call_maxAll x) (prim_max x.K) (by rfl) Q.m_max (by decide +kernel) (vl_cons ve_int (vl_cons (ve_op op_sub prim_sub (ve_callB call_abs prim_abs (by rfl) Q.m_abs (by decide +kernel) (vl_cons (ve_var (pv 2)) vl_nil)) (ve_op op_pow prim_pow ve_int ve_int)) vl_nil))) (vl_cons (ve_opV op_addAll prim_add (ve_opV op_addAll prim_add (ve_op op_mod prim_mod (ve_callB call_abs prim_abs (by rfl) Q.m_abs (by decide +kernel) (vl_cons (ve_var (pv 2)) vl_nil)) ve_int) (ve_op op_mulAll prim_mul ve_int (ve_var (pv 1)))) ve_int) vl_nil))))))
abbrev n_law_pair : List Str := ["_law_pot_here", "_law_places", "_law_found", "_law_a"]
theorem sc_law_pair : FnScope n_law_pair ["_law_pot_here", "_law_places", "_law_found"] (defScope s_law_pair) := ⟨rfl, rfl, rfl, by decide +kernel, rfl, by decide +kernel, by decide +kernel⟩
theorem ok_law_pair (Q : Fx G mg b0 P) : TA.FnG P w G.K mg b0 CX0 2 Q.a_law_pair Q.fd_law_pair ["_law_pot_here", "_law_places", "_law_found"] (spV G [0] true 3 f_law_pair) :=
  fnV (S := d_law_pair) (N := n_law_pair) Q.F_law_pair sc_law_pair (by decide) (by decide) fun cd B ou s H E x hg hr =>
    (vss_cons (vs_if (vt_w (vw_and (vt_cmp (op_neAll x) (prim_neA x.K) (ve_var (pv 2)) (ve_lst vl_nil) (nomark _)) (vw_and1 (vt_cmp (op_eqAll x) (prim_eqA x.K) (ve_call (ro := true) (k := 1) (ok_law_take Q) hg (hr.mono (by decide)) (by rfl) Q.g_law_take Q.F_law_take.kp Q.b_law_take pass0 [0] (vl_cons (ve_ref (pv 0)) (vl_cons ve_int vl_nil))) ve_int (nomark _))))) (vss_one (vs_ret (ve_revA x (ve_sub x (ve_var (pv 2)) (ve_call (ro := true) (k := 1) (ok_law_take Q) hg (hr.mono (by decide)) (by rfl) Q.g_law_take Q.F_law_take.kp Q.b_law_take pass0 [0] (vl_cons (ve_ref (pv 0)) (vl_cons (ve_callB call_lenAll (prim_len x.K) (by rfl) Q.m_len (by decide +kernel) (vl_cons (ve_var (pv 2)) vl_nil)) vl_nil)))))))
    vss_nil)
    (vss_cons (vs_set (i := 3) sc_law_pair.nd rfl (by first | exact .inl rfl | exact .inr rfl) (ve_call (ro := true) (k := 1) (ok_law_take Q) hg (hr.mono (by decide)) (by rfl) Q.g_law_take Q.F_law_take.kp Q.b_law_take pass0 [0] (vl_cons (ve_ref (pv 0)) (vl_cons (ve_var (pv 1)) vl_nil))))
    (vss_one (vs_ret (ve_tup (vl_cons (ve_own (ve_var (pv 3))) (vl_cons (ve_op op_mod prim_mod (ve_opV op_addAll prim_add (ve_opV op_addAll prim_add (ve_var (pv 3)) ve_int) (ve_call (ro := true) (k := 1) (ok_law_take Q) hg (hr.mono (by decide)) (by rfl) Q.g_law_take Q.F_law_take.kp Q.b_law_take pass0 [0] (vl_cons (ve_ref (pv 0)) (vl_cons (ve_op op_sub prim_sub (ve_var (pv 1)) ve_int) vl_nil)))) (ve_var (pv 1))) vl_nil)))))))
abbrev n_law_is_pair : List Str := ["_law_places", "_law_thing"]
theorem sc_law_is_pair : FnScope n_law_is_pair ["_law_places", "_law_thing"] (defScope s_law_is_pair) := ⟨rfl, rfl, rfl, by decide +kernel, rfl, by decide +kernel, by decide +kernel⟩
theorem ok_law_is_pair (Q : Fx G mg b0 P) : TA.FnG P w G.K mg b0 CX0 2 Q.a_law_is_pair Q.fd_law_is_pair ["_law_places", "_law_thing"] (spV G [] true 2 f_law_is_pair) :=
  fnV (S := d_law_is_pair) (N := n_law_is_pair) Q.F_law_is_pair sc_law_is_pair (by decide) (by decide) fun cd B ou s H E x hg hr =>
    (vss_cons (vs_if (vt_w (vw_or (vt_not (vt_truth x (ve_isi (T := "tuple") x (by rfl) Q.m_isinstance (by rfl) Q.m_tuple (by decide) (by decide +kernel) (ve_var (pv 1))))) (vw_or1 (vt_cmp (op_neAll x) (prim_neA x.K) (ve_callB call_lenAll (prim_len x.K) (by rfl) Q.m_len (by decide +kernel) (vl_cons (ve_var (pv 1)) vl_nil)) ve_int (nomark _))))) (vss_one (vs_ret ve_bl))
    vss_nil)
    (vss_cons (vs_if (vt_w (vw_or (vt_not (vt_truth x (ve_call (ro := true) (k := 1) (ok_law_is_whole Q) hg (hr.mono (by decide)) (by rfl) Q.g_law_is_whole Q.F_law_is_whole.kp Q.b_law_is_whole pass0 [] (vl_cons (ve_sub x (ve_var (pv 1)) ve_int) vl_nil)))) (vw_or (vt_not (vt_truth x (ve_call (ro := true) (k := 1) (ok_law_is_whole Q) hg (hr.mono (by decide)) (by rfl) Q.g_law_is_whole Q.F_law_is_whole.kp Q.b_law_is_whole pass0 [] (vl_cons (ve_sub x (ve_var (pv 1)) ve_int) vl_nil)))) (vw_or1 (vt_cmp (op_eqAll x) (prim_eqA x.K) (ve_sub x (ve_var (pv 1)) ve_int) (ve_sub x (ve_var (pv 1)) ve_int) (nomark _)))))) (vss_one (vs_ret ve_bl))
    vss_nil)
    (vss_one (vs_ret (ve_and x (ve_cmp op_ge prim_ge (ve_callB (call_minAll x) (prim_min x.K) (by rfl) Q.m_min (by decide +kernel) (vl_cons (ve_var (pv 1)) vl_nil)) ve_int (nomark _)) (ve_one (ve_cmp op_lt prim_lt (ve_callB (call_maxAll x) (prim_max x.K) (by rfl) Q.m_max (by decide +kernel) (vl_cons (ve_var (pv 1)) vl_nil)) (ve_var (pv 0)) (nomark _))))))))
abbrev n_law_odd : List Str := ["_law_pot_here", "_law_places", "_law_a", "_law_some"]
theorem sc_law_odd : FnScope n_law_odd ["_law_pot_here", "_law_places"] (defScope s_law_odd) := ⟨rfl, rfl, rfl, by decide +kernel, rfl, by decide +kernel, by decide +kernel⟩
theorem ok_law_odd (Q : Fx G mg b0 P) : TA.FnG P w G.K mg b0 CX0 2 Q.a_law_odd Q.fd_law_odd ["_law_pot_here", "_law_places"] (spV G [0] true 2 f_law_odd) :=
  fnV (S := d_law_odd) (N := n_law_odd) Q.F_law_odd sc_law_odd (by decide) (by decide) fun cd B ou s H E x hg hr =>
    (vss_cons (vs_set (i := 2) sc_law_odd.nd rfl (by first | exact .inl rfl | exact .inr rfl) (ve_call (ro := true) (k := 1) (ok_law_take Q) hg (hr.mono (by decide)) (by rfl) Q.g_law_take Q.F_law_take.kp Q.b_law_take pass0 [0] (vl_cons (ve_ref (pv 0)) (vl_cons (ve_var (pv 1)) vl_nil))))
    (vss_cons (vs_set (i := 3) sc_law_odd.nd rfl (by first | exact .inl rfl | exact .inr rfl) (ve_lst (vl_cons ve_non (vl_cons (ve_own (ve_var (pv 2))) (vl_cons ve_str (vl_cons (ve_lst (vl_cons ve_int (vl_cons ve_int vl_nil))) (vl_cons (ve_tup (vl_cons (ve_own (ve_var (pv 2))) vl_nil)) (vl_cons (ve_tup (vl_cons (ve_own (ve_var (pv 2))) (vl_cons (ve_own (ve_var (pv 2))) vl_nil))) (vl_cons (ve_tup (vl_cons (ve_own (ve_var (pv 2))) (vl_cons (ve_own (ve_var (pv 1))) vl_nil))) (vl_cons (ve_tup (vl_cons (ve_un un_neg prim_neg ve_int) (vl_cons (ve_own (ve_var (pv 2))) vl_nil))) (vl_cons (ve_tup (vl_cons ve_int (vl_cons ve_int (vl_cons ve_int vl_nil)))) (vl_cons (ve_tup vl_nil) (vl_cons ve_bl (vl_cons (ve_tup (vl_cons (ve_own (ve_var (pv 2))) (vl_cons ve_non vl_nil))) (vl_cons (ve_tup (vl_cons (ve_own (ve_var (pv 2))) (vl_cons ve_str vl_nil))) (vl_cons ve_dict0 vl_nil))))))))))))))))
    (vss_cons (vs_cat (i := 3) sc_law_odd.nd rfl (by first | exact .inl rfl | exact .inr rfl) op_addAll prim_add (ve_var (pv 3)) (ve_lst (vl_cons (ve_tup (vl_cons ve_bl (vl_cons (ve_own (ve_var (pv 2))) vl_nil))) (vl_cons (ve_tup (vl_cons (ve_tup (vl_cons ve_int vl_nil)) (vl_cons ve_int vl_nil))) (vl_cons (ve_tup (vl_cons (ve_own (ve_var (pv 2))) (vl_cons (ve_lst (vl_cons ve_int vl_nil)) vl_nil))) vl_nil)))))
    (vss_one (vs_ret (ve_sub x (ve_var (pv 3)) (ve_call (ro := true) (k := 1) (ok_law_take Q) hg (hr.mono (by decide)) (by rfl) Q.g_law_take Q.F_law_take.kp Q.b_law_take pass0 [0] (vl_cons (ve_ref (pv 0)) (vl_cons ve_int vl_nil)))))))))
abbrev n_law_no_places : List Str := ["_law_pot_here", "_law_far"]
theorem sc_law_no_places : FnScope n_law_no_places ["_law_pot_here"] (defScope s_law_no_places) := ⟨rfl, rfl, rfl, by decide +kernel, rfl, by decide +kernel, by decide +kernel⟩
theorem ok_law_no_places (Q : Fx G mg b0 P) : TA.FnG P w G.K mg b0 CX0 2 Q.a_law_no_places Q.fd_law_no_places ["_law_pot_here"] (spV G [0] true 1 f_law_no_places) :=
  fnV (S := d_law_no_places) (N := n_law_no_places) Q.F_law_no_places sc_law_no_places (by decide) (by decide) fun cd B ou s H E x hg hr =>
    (vss_cons (vs_set (i := 1) sc_law_no_places.nd rfl (by first | exact .inl rfl | exact .inr rfl) (ve_op op_mulAll prim_mul (ve_call (ro := true) (k := 1) (ok_law_take Q) hg (hr.mono (by decide)) (by rfl) Q.g_law_take Q.F_law_take.kp Q.b_law_take pass0 [0] (vl_cons (ve_ref (pv 0)) (vl_cons (ve_op op_pow prim_pow ve_int ve_int) vl_nil))) (ve_op op_pow prim_pow ve_int ve_int)))
    (vss_one (vs_ret (ve_sub x (ve_lst (vl_cons ve_int (vl_cons ve_int (vl_cons (ve_un un_neg prim_neg ve_int) (vl_cons (ve_own (ve_opV op_addAll prim_add ve_int (ve_var (pv 1)))) (vl_cons (ve_op op_sub prim_sub (ve_un un_neg prim_neg ve_int) (ve_var (pv 1))) (vl_cons ve_non (vl_cons ve_str (vl_cons (ve_tup (vl_cons ve_int vl_nil)) (vl_cons (ve_lst (vl_cons ve_int vl_nil)) (vl_cons ve_bl (vl_cons ve_bl (vl_cons ve_dict0 vl_nil))))))))))))) (ve_call (ro := true) (k := 1) (ok_law_take Q) hg (hr.mono (by decide)) (by rfl) Q.g_law_take Q.F_law_take.kp Q.b_law_take pass0 [0] (vl_cons (ve_ref (pv 0)) (vl_cons ve_int vl_nil)))))))
abbrev n_law_words : List Str := ["_law_e", "_law_kinds"]
theorem sc_law_words : FnScope n_law_words ["_law_e"] (defScope s_law_words) := ⟨rfl, rfl, rfl, by decide +kernel, rfl, by decide +kernel, by decide +kernel⟩
theorem okh_law_words (Q : Fx G mg b0 P) {a : Addr} {c : Nat} {d : Option Addr} {oe : Obj} (hc : c ∈ ([10, 13, 14] : List Nat)) (hz : Zc (.ref (G.cls c)) d oe) (ec : ExcC G.K (G.cls c)) : TA.FnP (a, oe) P w G.K mg b0 2 Q.a_law_words Q.fd_law_words ["_law_e"] (spV (G.heat (a, c, d)) [] true 1 f_law_words) :=
  fnVP (S := d_law_words) (N := n_law_words) Q.F_law_words sc_law_words (by decide) hc hz ec fun cd A ou s H E xh hr =>
    (vss_cons (vs_set (i := 1) sc_law_words.nd rfl (by first | exact .inl rfl | exact .inr rfl) (ve_lst (vl_cons (ve_isx xh (pv 0) (pe_glob (v := .ref _) (by rfl) Q.gE_NoWeb rfl) (.own _) Q.kit_NoWeb (by rfl) Q.m_isinstance) (vl_cons (ve_isx xh (pv 0) (pe_glob (v := .ref _) (by rfl) Q.gE_TooMany rfl) (.own _) Q.kit_TooMany (by rfl) Q.m_isinstance) (vl_cons (ve_isx xh (pv 0) (pe_glob (v := .ref _) (by rfl) Q.gE_NoTie rfl) (.own _) Q.kit_NoTie (by rfl) Q.m_isinstance) vl_nil)))))
    (vss_cons (vs_if (vt_w (vw_or (vt_truthU xh.u (ve_callP' xh (ro := true) (k := 1) (fun a c d oe hc e hz ec => by cases e; exact okh_law_is_other Q hc hz ec) (hr.mono (by decide)) (by rfl) Q.g_law_is_other Q.F_law_is_other.kp Q.b_law_is_other (vl_cons (ve_var (pv 0)) vl_nil))) (vw_or (vt_not (vt_truthU xh.u (ve_isx xh (pv 0) (pe_bltn (v := .ty "ValueError") (by rfl) Q.m_ValueError PyProof.Rows.Boot.«ValueError» rfl) (.ty _) Q.kit_ValueError (by rfl) Q.m_isinstance))) (vw_or1 (vt_cmp (op_neAllU xh.u) (prim_neA xh.K) (ve_cntU xh.u (ve_var (pv 1)) ve_bl) ve_int (nomark _)))))) (vss_one (vs_ret (ve_tup (vl_cons ve_str vl_nil))))
    vss_nil)
    (vss_cons (vs_if (vt_truthU xh.u (ve_subU xh.u (ve_var (pv 1)) ve_int)) (vss_one (vs_ret (ve_tup (vl_cons ve_str (vl_cons (ve_own (ve_xat xh (pv 0) Q.no_at)) vl_nil)))))
    vss_nil)
    (vss_one (vs_ret (ve_tup (vl_cons (ve_subU xh.u (ve_lst (vl_cons ve_str (vl_cons ve_str vl_nil))) (ve_idxU xh.u (ve_var (pv 1)) ve_bl)) vl_nil)))))))
abbrev n_is_pair : List Str := ["places", "thing", "a", "b"]
theorem sc_is_pair : FnScope n_is_pair ["places", "thing"] (defScope s_is_pair) := ⟨rfl, rfl, rfl, by decide +kernel, rfl, by decide +kernel, by decide +kernel⟩
theorem ok_is_pair (Q : Fx G mg b0 P) : TA.FnG P w G.K mg b0 CX0 3 Q.a_is_pair Q.fd_is_pair ["places", "thing"] (spV G [] true 2 f_is_pair) :=
  fnV (S := d_is_pair) (N := n_is_pair) Q.F_is_pair sc_is_pair (by decide) (by decide) fun cd B ou s H E x hg hr =>
    (vss_cons (vs_if (vt_w (vw_or (vt_not (vt_truth x (ve_isi (T := "tuple") x (by rfl) Q.m_isinstance (by rfl) Q.m_tuple (by decide) (by decide +kernel) (ve_var (pv 1))))) (vw_or1 (vt_cmp (op_neAll x) (prim_neA x.K) (ve_callB call_lenAll (prim_len x.K) (by rfl) Q.m_len (by decide +kernel) (vl_cons (ve_var (pv 1)) vl_nil)) ve_int (nomark _))))) (vss_one (vs_ret ve_bl))
    vss_nil)
    (vss_cons (vs_unp x (ve_var (pv 1)) (vgs_cons (vg_name (i := 2) sc_is_pair.nd rfl (by first | exact .inl rfl | exact .inr rfl)) (vgs_cons (vg_name (i := 3) sc_is_pair.nd rfl (by first | exact .inl rfl | exact .inr rfl)) vgs_nil)))
    (vss_one (vs_ret (ve_and x (ve_call (ro := true) (k := 2) (ok_is_place Q) hg (hr.mono (by decide)) (by rfl) Q.g_is_place Q.F_is_place.kp Q.b_is_place pass0 [] (vl_cons (ve_var (pv 0)) (vl_cons (ve_var (pv 2)) vl_nil))) (ve_and x (ve_call (ro := true) (k := 2) (ok_is_place Q) hg (hr.mono (by decide)) (by rfl) Q.g_is_place Q.F_is_place.kp Q.b_is_place pass0 [] (vl_cons (ve_var (pv 0)) (vl_cons (ve_var (pv 3)) vl_nil))) (ve_one (ve_cmp (op_neAll x) (prim_neA x.K) (ve_var (pv 2)) (ve_var (pv 3)) (nomark _)))))))))
abbrev n_law_pairs : List Str := ["_law_pot_here", "_law_places", "_law_found", "_law_k"]
theorem sc_law_pairs : FnScope n_law_pairs ["_law_pot_here", "_law_places"] (defScope s_law_pairs) := ⟨rfl, rfl, rfl, by decide +kernel, rfl, by decide +kernel, by decide +kernel⟩
theorem ok_law_pairs (Q : Fx G mg b0 P) : TA.FnG P w G.K mg b0 CX0 3 Q.a_law_pairs Q.fd_law_pairs ["_law_pot_here", "_law_places"] (spV G [0] true 2 f_law_pairs) :=
  fnV (S := d_law_pairs) (N := n_law_pairs) Q.F_law_pairs sc_law_pairs (by decide) (by decide) fun cd B ou s H E x hg hr =>
    (vss_cons (vs_set (i := 2) sc_law_pairs.nd rfl (by first | exact .inl rfl | exact .inr rfl) (ve_lst vl_nil))
    (vss_cons (vs_for (g := fun b => (gSet (.pr b) 3)) x PassesOwn.never (vi_range1 (by rfl) Q.m_range (ve_op op_mulAll prim_mul (ve_call (ro := true) (k := 1) (ok_law_take Q) hg (hr.mono (by decide)) (by rfl) Q.g_law_take Q.F_law_take.kp Q.b_law_take pass0 [0] (vl_cons (ve_ref (pv 0)) (vl_cons ve_int vl_nil))) (ve_callTy call_int1 prim_int (by rfl) Q.m_int (by decide +kernel) (vl_cons (ve_cmp op_gt prim_gt (ve_var (pv 1)) ve_int (nomark _)) vl_nil)))) (fun b => (vg_name (i := 3) sc_law_pairs.nd rfl (by first | exact .inl rfl | exact .inr rfl))) (vss_one (vs_expr (ve_mut x PySem.F.plainAttrs_list PySem.F.slot_list_append PySem.F.type_list_append mt_append mut_append (vp_name (pv 2)) (vl_cons (ve_call (ro := true) (k := 2) (ok_law_pair Q) hg (hr.mono (by decide)) (by rfl) Q.g_law_pair Q.F_law_pair.kp Q.b_law_pair pass0 [0] (vl_cons (ve_ref (pv 0)) (vl_cons (ve_var (pv 1)) (vl_cons (ve_var (pv 2)) vl_nil)))) vl_nil)))))
    (vss_one (vs_ret (ve_var (pv 2))))))
abbrev n_refuse_layout : List Str := ["places", "pairs", "most", "at", "pair"]
theorem sc_refuse_layout : FnScope n_refuse_layout ["places", "pairs", "most"] (defScope s_refuse_layout) := ⟨rfl, rfl, rfl, by decide +kernel, rfl, by decide +kernel, by decide +kernel⟩
theorem ok_refuse_layout (Q : Fx G mg b0 P) : TA.FnG P w G.K mg b0 CX0 4 Q.a_refuse_layout Q.fd_refuse_layout ["places", "pairs", "most"] (spV G [] true 3 f_refuse_layout) :=
  fnV (S := d_refuse_layout) (N := n_refuse_layout) Q.F_refuse_layout sc_refuse_layout (by decide) (by decide) fun cd B ou s H E x hg hr =>
    (vss_cons (vs_expr (ve_call (ro := true) (k := 2) (ok_refuse_size Q) hg (hr.mono (by decide)) (by rfl) Q.g_refuse_size Q.F_refuse_size.kp Q.b_refuse_size pass0 [] (vl_cons (ve_var (pv 0)) vl_nil)))
    (vss_cons (vs_if (vt_cmp op_gt prim_gt (ve_callB call_lenAll (prim_len x.K) (by rfl) Q.m_len (by decide +kernel) (vl_cons (ve_var (pv 1)) vl_nil)) (ve_var (pv 2)) (nomark _)) (vss_one vs_never)
    vss_nil)
    (vss_one (vs_for (g := fun b => (gTupE 2 (gsCons (gSet (.pr b) 3) (gsCons (gSet (.pr b) 4) gsNil)))) x PassesOwn.never (vi_enum x (by rfl) Q.m_enumerate (ve_var (pv 1))) (fun b => (vg_tup x (vgs_cons (vg_name (i := 3) sc_refuse_layout.nd rfl (by first | exact .inl rfl | exact .inr rfl)) (vgs_cons (vg_name (i := 4) sc_refuse_layout.nd rfl (by first | exact .inl rfl | exact .inr rfl)) vgs_nil)))) (vss_one (vs_if (vt_not (vt_truth x (ve_call (ro := true) (k := 3) (ok_is_pair Q) hg (hr.mono (by decide)) (by rfl) Q.g_is_pair Q.F_is_pair.kp Q.b_is_pair pass0 [] (vl_cons (ve_var (pv 0)) (vl_cons (ve_var (pv 4)) vl_nil))))) (vss_one vs_never)
    vss_nil))))))
theorem okx_refuse_layout (Q : Fx G mg b0 P) : TA.FnG P w G.K mg b0 (L2N.CX P w) 4 Q.a_refuse_layout Q.fd_refuse_layout ["places", "pairs", "most"] (spX G true 3 fx_refuse_layout) :=
  fnX (S := dx_refuse_layout) (N := n_refuse_layout) Q.F_refuse_layout sc_refuse_layout (by decide) fun cd B ou s H E W x hg hr hp tk =>
    (vxs_cons (vx_expr (vex_call (ro := true) (k := 2) (okx_refuse_size Q) tk hg (hr.mono (by decide)) (by rfl) Q.g_refuse_size Q.F_refuse_size.kp Q.b_refuse_size (vl_cons (ve_var (pv 0)) vl_nil)))
    (vxs_cons (vx_if (vt_cmp op_gt prim_gt (ve_callB call_lenAll (prim_len x.K) (by rfl) Q.m_len (by decide +kernel) (vl_cons (ve_var (pv 1)) vl_nil)) (ve_var (pv 2)) (nomark _)) (vxs_one (vx_raise x tk PySem.F.excBase_ValueError Q.z_TooMany Q.q_TooMany (by rfl) (ve_join (VJ.str (VJ.fmt (ve_var (pv 2)) (VJ.str VJ.nil))))))
    (vxs_of vss_nil))
    (vxs_one (vx_for (g := fun b => (gTupE 2 (gsCons (gSet (.pr b) 3) (gsCons (gSet (.pr b) 4) gsNil)))) x hp (vi_enum x (by rfl) Q.m_enumerate (ve_var (pv 1))) (fun b => (vg_tup x (vgs_cons (vg_name (i := 3) sc_refuse_layout.nd rfl (by first | exact .inl rfl | exact .inr rfl)) (vgs_cons (vg_name (i := 4) sc_refuse_layout.nd rfl (by first | exact .inl rfl | exact .inr rfl)) vgs_nil)))) (vxs_one (vx_if (vt_not (vt_truth x (ve_call (ro := true) (k := 3) (ok_is_pair Q) hg (hr.mono (by decide)) (by rfl) Q.g_is_pair Q.F_is_pair.kp Q.b_is_pair pass0 [] (vl_cons (ve_var (pv 0)) (vl_cons (ve_var (pv 4)) vl_nil))))) (vxs_one (vx_raiseI (ro := true) x tk Q.o_NoTie Q.I_NoTie.it Q.I_NoTie.ty (oki_NoTie Q) (hr.mono (by decide)) Q.Ib_NoTie (by rfl) Q.z_NoTie.gC (vl_cons (ve_var (pv 3)) vl_nil)))
    (vxs_of vss_nil)))))))
abbrev n_made_web : List Str := ["places", "ties", "a", "b"]
theorem sc_made_web : FnScope n_made_web ["places", "ties"] (defScope s_made_web) := ⟨rfl, rfl, rfl, by decide +kernel, rfl, by decide +kernel, by decide +kernel⟩
theorem ok_made_web (Q : Fx G mg b0 P) : TA.FnG P w G.K mg b0 CX0 5 Q.a_made_web Q.fd_made_web ["places", "ties"] (spV G [] true 2 f_made_web) :=
  fnVC (S := d_made_web) (N := n_made_web) Q.F_made_web Q.h_made_web sc_made_web (by decide) (by decide) fun B ou s H E x hg hr =>
    (vss_cons (vs_expr (ve_call (ro := true) (k := 4) (ok_refuse_layout Q) hg (hr.mono (by decide)) (by rfl) Q.g_refuse_layout Q.F_refuse_layout.kp Q.b_refuse_layout pass0 [] (vl_cons (ve_var (pv 0)) (vl_cons (ve_var (pv 1)) (vl_cons (ve_gi (by rfl) Q.c_MOST_TIES) vl_nil)))))
    (vss_one (vs_ret (ve_tup (vl_cons (ve_own (ve_var (pv 0))) (vl_cons (ve_tupG1R (n := 3) x hr (hr.mono (by decide)) Q.B_made_web Q.t_made_web rfl (by rfl) Q.m_tuple sc_made_web.nd (own := [("a", 2), ("b", 3)]) (W := [2, 3]) (g := fun b => (gTupE 2 (gsCons (gSet (.pr b) 2) (gsCons (gSet (.pr b) 3) gsNil)))) (t := tYesF) (f := d_made_web_2) (vi_seq x (ve_var (pv 1))) (TA.gxOk_by (N := n_made_web) (sc := (defScope s_made_web)) (by decide +kernel)) (fun b _ _ _ _ _ _ _ hrA => (vg_tup (x.gx hrA) (vgs_cons (vg_name (i := 2) sc_made_web.nd rfl (by first | exact .inl rfl | exact .inr rfl)) (vgs_cons (vg_name (i := 3) sc_made_web.nd rfl (by first | exact .inl rfl | exact .inr rfl)) vgs_nil)))) (fun _ _ _ _ _ _ _ hrA => vts_nil) (fun _ _ _ _ _ _ _ hrA => (ve_tup (vl_cons (ve_callB (call_minAll (x.gx hrA)) (prim_min (x.gx hrA).K) (by rfl) Q.m_min (by decide +kernel) (vl_cons (ve_var (pv 2)) (vl_cons (ve_var (pv 3)) vl_nil))) (vl_cons (ve_callB (call_maxAll (x.gx hrA)) (prim_max (x.gx hrA).K) (by rfl) Q.m_max (by decide +kernel) (vl_cons (ve_var (pv 2)) (vl_cons (ve_var (pv 3)) vl_nil))) vl_nil))))) vl_nil))))))
theorem okx_made_web (Q : Fx G mg b0 P) : TA.FnG P w G.K mg b0 (L2N.CX P w) 5 Q.a_made_web Q.fd_made_web ["places", "ties"] (spX G true 2 fx_made_web) :=
  fnXC (S := dx_made_web) (N := n_made_web) Q.F_made_web Q.h_made_web sc_made_web (by decide) fun B ou s H E W x hg hr hp tk =>
    (vxs_cons (vx_expr (vex_call (ro := true) (k := 4) (okx_refuse_layout Q) tk hg (hr.mono (by decide)) (by rfl) Q.g_refuse_layout Q.F_refuse_layout.kp Q.b_refuse_layout (vl_cons (ve_var (pv 0)) (vl_cons (ve_var (pv 1)) (vl_cons (ve_gi (by rfl) Q.c_MOST_TIES) vl_nil)))))
    (vxs_one (vx_of (vs_ret (ve_tup (vl_cons (ve_own (ve_var (pv 0))) (vl_cons (ve_tupG1R (n := 3) x hr (hr.mono (by decide)) Q.B_made_web Q.t_made_web rfl (by rfl) Q.m_tuple sc_made_web.nd (own := [("a", 2), ("b", 3)]) (W := [2, 3]) (g := fun b => (gTupE 2 (gsCons (gSet (.pr b) 2) (gsCons (gSet (.pr b) 3) gsNil)))) (t := tYesF) (f := d_made_web_502) (vi_seq x (ve_var (pv 1))) (TA.gxOk_by (N := n_made_web) (sc := (defScope s_made_web)) (by decide +kernel)) (fun b _ _ _ _ _ _ _ hrA => (vg_tup (x.gx hrA) (vgs_cons (vg_name (i := 2) sc_made_web.nd rfl (by first | exact .inl rfl | exact .inr rfl)) (vgs_cons (vg_name (i := 3) sc_made_web.nd rfl (by first | exact .inl rfl | exact .inr rfl)) vgs_nil)))) (fun _ _ _ _ _ _ _ hrA => vts_nil) (fun _ _ _ _ _ _ _ hrA => (ve_tup (vl_cons (ve_callB (call_minAll (x.gx hrA)) (prim_min (x.gx hrA).K) (by rfl) Q.m_min (by decide +kernel) (vl_cons (ve_var (pv 2)) (vl_cons (ve_var (pv 3)) vl_nil))) (vl_cons (ve_callB (call_maxAll (x.gx hrA)) (prim_max (x.gx hrA).K) (by rfl) Q.m_max (by decide +kernel) (vl_cons (ve_var (pv 2)) (vl_cons (ve_var (pv 3)) vl_nil))) vl_nil))))) vl_nil)))))))
abbrev n_law_told : List Str := ["_law_places", "_law_ties", "_law_told_here", "_law_e"]
theorem sc_law_told : FnScope n_law_told ["_law_places", "_law_ties"] (defScope s_law_told) := ⟨rfl, rfl, rfl, by decide +kernel, rfl, by decide +kernel, by decide +kernel⟩
theorem ok_law_told (Q : Fx G mg b0 P) : TA.FnG P w G.K mg b0 CX0 6 Q.a_law_told Q.fd_law_told ["_law_places", "_law_ties"] (spV G [] true 2 f_law_told) :=
  fnV (S := d_law_told) (N := n_law_told) Q.F_law_told sc_law_told (by decide) (by decide) fun cd B ou s H E x hg hr =>
    (vss_cons (vs_set (i := 2) sc_law_told.nd rfl (by first | exact .inl rfl | exact .inr rfl) (ve_tup (vl_cons ve_str vl_nil)))
    (vss_cons (vs_try (cs := [10, 13, 14]) (i := 3) (b := d_law_told_1) (h := d_law_told_2) x Q.hot0 rfl rfl sc_law_told.nd rfl rfl ⟨by rfl, by decide, .inl Q.gE_TreeError⟩ takes_never Q.ec Q.em_TreeError (fun W pn xe tk hp => (vxs_one (vx_expr (vex_call (ro := true) (k := 5) (okx_made_web Q) tk hg (hr.mono (by decide)) (by rfl) Q.g_made_web Q.F_made_web.kp Q.b_made_web (vl_cons (ve_var (pv 0)) (vl_cons (ve_var (pv 1)) vl_nil)))))) (fun a c d oe pn hc xh => (vss_one (vs_set (i := 2) sc_law_told.nd rfl (by first | exact .inl rfl | exact .inr rfl) (ve_callP' xh (ro := true) (k := 2) (fun a c d oe hc e hz ec => by cases e; exact okh_law_words Q hc hz ec) (room_mark (hr.mono (by decide)) _) (by rfl) Q.g_law_words Q.F_law_words.kp Q.b_law_words (vl_cons (ve_var (pv 3)) vl_nil))))))
    (vss_one (vs_ret (ve_var (pv 2))))))
abbrev n_law : List Str := ["_law_script", "_law_k", "_law_pot_here", "_law_places", "_law_none", "_law_bad", "_law_pairs_here", "_law_turn", "_law_odd_here", "_law_kept", "_law_first", "_law_long", "_law_told_here", "_law_due", "_law_at", "_law_thing", "_law_pair_here"]
theorem sc_law : FnScope n_law ["_law_script"] (defScope s_law) := ⟨rfl, rfl, rfl, by decide +kernel, rfl, by decide +kernel, by decide +kernel⟩
theorem ok_law (Q : Fx G mg b0 P) : TA.FnG P w G.K mg b0 CX0 7 Q.a_law Q.fd_law ["_law_script"] (spV G [] true 1 f_law) :=
  fnV (S := d_law) (N := n_law) Q.F_law sc_law (by decide) (by decide) fun cd B ou s H E x hg hr =>
    (vss_cons (vs_for (g := fun b => (gSet (.pr b) 1)) x PassesOwn.never (vi_range1 (by rfl) Q.m_range (ve_callB (call_maxAll x) (prim_max x.K) (by rfl) Q.m_max (by decide +kernel) (vl_cons ve_int (vl_cons (ve_callB (call_minAll x) (prim_min x.K) (by rfl) Q.m_min (by decide +kernel) (vl_cons ve_int (vl_cons (ve_callB call_lenAll (prim_len x.K) (by rfl) Q.m_len (by decide +kernel) (vl_cons (ve_var (pv 0)) vl_nil)) vl_nil))) vl_nil)))) (fun b => (vg_name (i := 1) sc_law.nd rfl (by first | exact .inl rfl | exact .inr rfl))) (vss_cons (vs_set (i := 2) sc_law.nd rfl (by first | exact .inl rfl | exact .inr rfl) (ve_call (ro := true) (k := 2) (ok_law_pot Q) hg (hr.mono (by decide)) (by rfl) Q.g_law_pot Q.F_law_pot.kp Q.b_law_pot pass0 [] (vl_cons (ve_var (pv 0)) (vl_cons (ve_var (pv 1)) vl_nil))))
    (vss_cons (vs_set (i := 3) sc_law.nd rfl (by first | exact .inl rfl | exact .inr rfl) (ve_opV op_addAll prim_add ve_int (ve_call (ro := true) (k := 1) (ok_law_take Q) hg (hr.mono (by decide)) (by rfl) Q.g_law_take Q.F_law_take.kp Q.b_law_take pass0 [2] (vl_cons (ve_ref (pv 2)) (vl_cons ve_int vl_nil)))))
    (vss_cons (vs_set (i := 4) sc_law.nd rfl (by first | exact .inl rfl | exact .inr rfl) (ve_call (ro := true) (k := 2) (ok_law_no_places Q) hg (hr.mono (by decide)) (by rfl) Q.g_law_no_places Q.F_law_no_places.kp Q.b_law_no_places pass0 [2] (vl_cons (ve_ref (pv 2)) vl_nil)))
    (vss_cons (vs_set (i := 5) sc_law.nd rfl (by first | exact .inl rfl | exact .inr rfl) (ve_sliceA x (ve_call (ro := true) (k := 3) (ok_law_pairs Q) hg (hr.mono (by decide)) (by rfl) Q.g_law_pairs Q.F_law_pairs.kp Q.b_law_pairs pass0 [2] (vl_cons (ve_ref (pv 2)) (vl_cons (ve_var (pv 3)) vl_nil))) vo_none (vo_some ve_int)))
    (vss_cons (vs_set (i := 6) sc_law.nd rfl (by first | exact .inl rfl | exact .inr rfl) (ve_callTy call_tuple_of (prim_tuple x.K) (by rfl) Q.m_tuple (by decide +kernel) (vl_cons (ve_var (pv 5)) vl_nil)))
    (vss_cons (vs_for (g := fun b => (gSet (.pr b) 7)) x PassesOwn.never (vi_range1 (by rfl) Q.m_range (ve_opV op_addAll prim_add ve_int (ve_call (ro := true) (k := 1) (ok_law_take Q) hg (hr.mono (by decide)) (by rfl) Q.g_law_take Q.F_law_take.kp Q.b_law_take pass0 [2] (vl_cons (ve_ref (pv 2)) (vl_cons ve_int vl_nil))))) (fun b => (vg_name (i := 7) sc_law.nd rfl (by first | exact .inl rfl | exact .inr rfl))) (vss_cons (vs_set (i := 8) sc_law.nd rfl (by first | exact .inl rfl | exact .inr rfl) (ve_call (ro := true) (k := 2) (ok_law_odd Q) hg (hr.mono (by decide)) (by rfl) Q.g_law_odd Q.F_law_odd.kp Q.b_law_odd pass0 [2] (vl_cons (ve_ref (pv 2)) (vl_cons (ve_var (pv 3)) vl_nil))))
    (vss_one (vs_mvIns x (pv 5) (ve_call (ro := true) (k := 1) (ok_law_take Q) hg (hr.mono (by decide)) (by rfl) Q.g_law_take Q.F_law_take.kp Q.b_law_take pass0 [2] (vl_cons (ve_ref (pv 2)) (vl_cons (ve_opV op_addAll prim_add (ve_callB call_lenAll (prim_len x.K) (by rfl) Q.m_len (by decide +kernel) (vl_cons (ve_var (pv 5)) vl_nil)) ve_int) vl_nil))) (pv 8)))))
    (vss_cons (vs_set (i := 9) sc_law.nd rfl (by first | exact .inl rfl | exact .inr rfl) (ve_callB (call_reprXD hg x.un64) (prim_reprX x.K) (by rfl) Q.m_repr (by decide +kernel) (vl_cons (ve_var (pv 5)) vl_nil)))
    (vss_cons (vs_set (i := 10) sc_law.nd rfl (by first | exact .inl rfl | exact .inr rfl) (ve_sub x (ve_lc x sc_law.nd (own := [("_law_at", 14), ("_law_thing", 15)]) (W := [14, 15]) (M := []) (g := fun b => (gTupE 2 (gsCons (gSet (.pr b) 14) (gsCons (gSet (.pr b) 15) gsNil)))) (t := d_law_3) (f := d_law_2) (vi_enum x (by rfl) Q.m_enumerate (ve_var (pv 5))) (blkOk_by (N := n_law) (sc := (defScope s_law)) (by decide +kernel)) (fun b _ _ _ _ _ => (vg_tup x.blk (vgs_cons (vg_name (i := 14) sc_law.nd rfl (by first | exact .inl rfl | exact .inr rfl)) (vgs_cons (vg_name (i := 15) sc_law.nd rfl (by first | exact .inl rfl | exact .inr rfl)) vgs_nil)))) (fun _ _ _ _ _ => vts_mono (vts_one (vt_not (vt_truth x.blk (ve_call (ro := true) (k := 2) (ok_law_is_pair Q) hg (hr.mono (by decide)) (by rfl) Q.g_law_is_pair Q.F_law_is_pair.kp Q.b_law_is_pair pass0 [] (vl_cons (ve_var (pv 3)) (vl_cons (ve_var (pv 15)) vl_nil))))))) (fun _ _ _ _ _ => ve_mono (ve_var (pv 14)))) ve_int))
    (vss_cons (vs_set (i := 11) sc_law.nd rfl (by first | exact .inl rfl | exact .inr rfl) (ve_sliceA x (ve_mulN (ve_var (pv 5)) ve_int) vo_none (vo_some (ve_opV op_addAll prim_add ve_int (ve_call (ro := true) (k := 1) (ok_law_take Q) hg (hr.mono (by decide)) (by rfl) Q.g_law_take Q.F_law_take.kp Q.b_law_take pass0 [2] (vl_cons (ve_ref (pv 2)) (vl_cons ve_int vl_nil)))))))
    (vss_cons (vs_set (i := 12) sc_law.nd rfl (by first | exact .inl rfl | exact .inr rfl) (ve_lst (vl_cons (ve_call (ro := true) (k := 6) (ok_law_told Q) hg (hr.mono (by decide)) (by rfl) Q.g_law_told Q.F_law_told.kp Q.b_law_told pass0 [] (vl_cons (ve_var (pv 4)) (vl_cons (ve_var (pv 11)) vl_nil))) (vl_cons (ve_call (ro := true) (k := 6) (ok_law_told Q) hg (hr.mono (by decide)) (by rfl) Q.g_law_told Q.F_law_told.kp Q.b_law_told pass0 [] (vl_cons (ve_var (pv 4)) (vl_cons (ve_var (pv 6)) vl_nil))) (vl_cons (ve_call (ro := true) (k := 6) (ok_law_told Q) hg (hr.mono (by decide)) (by rfl) Q.g_law_told Q.F_law_told.kp Q.b_law_told pass0 [] (vl_cons (ve_var (pv 3)) (vl_cons (ve_var (pv 11)) vl_nil))) (vl_cons (ve_call (ro := true) (k := 6) (ok_law_told Q) hg (hr.mono (by decide)) (by rfl) Q.g_law_told Q.F_law_told.kp Q.b_law_told pass0 [] (vl_cons (ve_var (pv 3)) (vl_cons (ve_var (pv 5)) vl_nil))) vl_nil))))))
    (vss_cons (vs_if (vt_w (vw_or (vt_cmp (op_neAll x) (prim_neA x.K) (ve_callB (call_reprXD hg x.un64) (prim_reprX x.K) (by rfl) Q.m_repr (by decide +kernel) (vl_cons (ve_var (pv 12)) vl_nil)) (ve_callB (call_reprXD hg x.un64) (prim_reprX x.K) (by rfl) Q.m_repr (by decide +kernel) (vl_cons (ve_lst (vl_cons (ve_tup (vl_cons ve_str vl_nil)) (vl_cons (ve_tup (vl_cons ve_str vl_nil)) (vl_cons (ve_tup (vl_cons ve_str vl_nil)) (vl_cons (ve_tup (vl_cons ve_str (vl_cons (ve_var (pv 10)) vl_nil))) vl_nil))))) vl_nil)) (nomark _)) (vw_or1 (vt_cmp (op_neAll x) (prim_neA x.K) (ve_callB (call_reprXD hg x.un64) (prim_reprX x.K) (by rfl) Q.m_repr (by decide +kernel) (vl_cons (ve_var (pv 5)) vl_nil)) (ve_var (pv 9)) (nomark _))))) (vss_one (vs_ret ve_bl))
    vss_nil)
    (vss_cons (vs_if (vt_cmp (op_neAll x) (prim_neA x.K) (ve_callB (call_reprXD hg x.un64) (prim_reprX x.K) (by rfl) Q.m_repr (by decide +kernel) (vl_cons (ve_call (ro := true) (k := 6) (ok_law_told Q) hg (hr.mono (by decide)) (by rfl) Q.g_law_told Q.F_law_told.kp Q.b_law_told pass0 [] (vl_cons (ve_var (pv 3)) (vl_cons (ve_callTy call_tuple_of (prim_tuple x.K) (by rfl) Q.m_tuple (by decide +kernel) (vl_cons (ve_var (pv 5)) vl_nil)) vl_nil))) vl_nil)) (ve_callB (call_reprXD hg x.un64) (prim_reprX x.K) (by rfl) Q.m_repr (by decide +kernel) (vl_cons (ve_tup (vl_cons ve_str (vl_cons (ve_var (pv 10)) vl_nil))) vl_nil)) (nomark _)) (vss_one (vs_ret ve_bl))
    vss_nil)
    (vss_cons (vs_set (i := 13) sc_law.nd rfl (by first | exact .inl rfl | exact .inr rfl) (ve_tup (vl_cons (ve_var (pv 3)) (vl_cons (ve_callTy call_tuple_of (prim_tuple x.K) (by rfl) Q.m_tuple (by decide +kernel) (vl_cons (ve_lc x sc_law.nd (own := [("_law_pair_here", 16)]) (W := [16]) (M := []) (g := fun b => (gSet (.pr b) 16)) (t := tYesF) (f := d_law_4) (vi_seq x (ve_var (pv 6))) (blkOk_by (N := n_law) (sc := (defScope s_law)) (by decide +kernel)) (fun b _ _ _ _ _ => (vg_name (i := 16) sc_law.nd rfl (by first | exact .inl rfl | exact .inr rfl))) (fun _ _ _ _ _ => vts_mono vts_nil) (fun _ _ _ _ _ => ve_mono (ve_tup (vl_cons (ve_callB (call_minAll x.blk) (prim_min x.blk.K) (by rfl) Q.m_min (by decide +kernel) (vl_cons (ve_var (pv 16)) vl_nil)) (vl_cons (ve_callB (call_maxAll x.blk) (prim_max x.blk.K) (by rfl) Q.m_max (by decide +kernel) (vl_cons (ve_var (pv 16)) vl_nil)) vl_nil))))) vl_nil)) vl_nil))))
    (vss_one (vs_if (vt_w (vw_or (vt_cmp (op_neAll x) (prim_neA x.K) (ve_call (ro := true) (k := 6) (ok_law_told Q) hg (hr.mono (by decide)) (by rfl) Q.g_law_told Q.F_law_told.kp Q.b_law_told pass0 [] (vl_cons (ve_var (pv 3)) (vl_cons (ve_sliceA x (ve_op TA.op_rep0 (prim_mulE x.K) (ve_var (pv 6)) ve_int) vo_none (vo_some ve_int)) vl_nil))) (ve_tup (vl_cons ve_str vl_nil)) (nomark _)) (vw_or1 (vt_cmp (op_neAll x) (prim_neA x.K) (ve_call (ro := true) (k := 5) (ok_made_web Q) hg (hr.mono (by decide)) (by rfl) Q.g_made_web Q.F_made_web.kp Q.b_made_web pass0 [] (vl_cons (ve_var (pv 3)) (vl_cons (ve_var (pv 6)) vl_nil))) (ve_var (pv 13)) (nomark _))))) (vss_one (vs_ret ve_bl))
    vss_nil))))))))))))))))
    (vss_one (vs_ret ve_bl)))
end
end VL
set_option maxHeartbeats 4000000
namespace VL
section
variable {ps : List (Nat × Nat)} {N N' : List Nat}
def Ad (ps : List (Nat × Nat)) (N : List Nat) (x y : Nat) : Prop := ∃ i ∈ N, ∃ q, ps[i]? = some q ∧ ((q.1 = x ∧ q.2 = y) ∨ (q.1 = y ∧ q.2 = x))
inductive Cn (ps : List (Nat × Nat)) (N : List Nat) (x : Nat) : Nat → Prop
  | rfl : Cn ps N x x
  | step {y z : Nat} (h : Cn ps N x y) (a : Ad ps N y z) : Cn ps N x z
theorem Ad.symm {x y : Nat} (h : Ad ps N x y) : Ad ps N y x := by
  obtain ⟨i, hi, q, hq, h⟩ := h
  exact ⟨i, hi, q, hq, h.symm⟩
theorem Ad.mono (s : ∀ i ∈ N, i ∈ N') {x y : Nat} (h : Ad ps N x y) : Ad ps N' x y := by
  obtain ⟨i, hi, q, hq, h⟩ := h
  exact ⟨i, s i hi, q, hq, h⟩
theorem Cn.trans {x y z : Nat} (h : Cn ps N x y) (k : Cn ps N y z) : Cn ps N x z := by
  induction k with
  | rfl => exact h
  | step _ a ih => exact .step ih a
theorem Cn.symm {x y : Nat} (h : Cn ps N x y) : Cn ps N y x := by
  induction h with
  | rfl => exact .rfl
  | step _ a ih => exact Cn.trans (.step .rfl a.symm) ih
theorem Cn.mono (s : ∀ i ∈ N, i ∈ N') {x y : Nat} (h : Cn ps N x y) : Cn ps N' x y := by
  induction h with
  | rfl => exact .rfl
  | step _ a ih => exact .step ih (a.mono s)
theorem Cn.nil {x y : Nat} (h : Cn ps [] x y) : x = y := by
  induction h with
  | rfl => rfl
  | step _ a ih =>
    obtain ⟨i, hi, _⟩ := a
    cases hi
theorem Cn.add {k : Nat} {q : Nat × Nat} (hk : ps[k]? = some q) {x y : Nat} : Cn ps (N ++ [k]) x y ↔ Cn ps N x y ∨ (Cn ps N x q.1 ∧ Cn ps N q.2 y) ∨ (Cn ps N x q.2 ∧ Cn ps N q.1 y) := by
  constructor
  · intro h
    induction h with
    | rfl => exact .inl .rfl
    | @step y z h a ih =>
      obtain ⟨i, hi, r, hr, ha⟩ := a
      rcases List.mem_append.mp hi with hi | hi
      · have a' : Ad ps N y z := ⟨i, hi, r, hr, ha⟩
        rcases ih with h1 | ⟨h1, h2⟩ | ⟨h1, h2⟩
        · exact .inl (.step h1 a')
        · exact .inr (.inl ⟨h1, .step h2 a'⟩)
        · exact .inr (.inr ⟨h1, .step h2 a'⟩)
      · rw [List.mem_singleton.mp hi, hk] at hr
        cases hr
        rcases ha with ⟨e1, e2⟩ | ⟨e1, e2⟩
        · rw [← e2]
          rw [← e1] at ih
          rcases ih with h1 | ⟨h1, h2⟩ | ⟨h1, h2⟩
          · exact .inr (.inl ⟨h1, .rfl⟩)
          · exact .inr (.inl ⟨h1, .rfl⟩)
          · exact .inl h1
        · rw [← e1]
          rw [← e2] at ih
          rcases ih with h1 | ⟨h1, h2⟩ | ⟨h1, h2⟩
          · exact .inr (.inr ⟨h1, .rfl⟩)
          · exact .inl h1
          · exact .inr (.inr ⟨h1, .rfl⟩)
  · have up : ∀ {a b : Nat}, Cn ps N a b → Cn ps (N ++ [k]) a b := fun h => h.mono fun i hi => List.mem_append_left _ hi
    have e : Ad ps (N ++ [k]) q.1 q.2 := ⟨k, by simp, q, hk, .inl ⟨Eq.refl _, Eq.refl _⟩⟩
    rintro (h | ⟨h1, h2⟩ | ⟨h1, h2⟩)
    · exact up h
    · exact (Cn.step (up h1) e).trans (up h2)
    · exact (Cn.step (up h1) e.symm).trans (up h2)
def Free (ps : List (Nat × Nat)) (N : List Nat) (m : Nat) : Prop := ∀ i, i < m → ∀ k q, N[i]? = some k → ps[k]? = some q → ¬ Cn ps (N.take i) q.1 q.2
theorem Free.succ {m k : Nat} {q : Nat × Nat} (hk : N[m]? = some k) (hq : ps[k]? = some q) : Free ps N (m + 1) ↔ Free ps N m ∧ ¬ Cn ps (N.take m) q.1 q.2 := by
  constructor
  · intro h
    exact ⟨fun i hi => h i (by omega), h m (by omega) k q hk hq⟩
  · rintro ⟨h1, h2⟩ i hi k' q' hk' hq'
    rcases Nat.lt_succ_iff_lt_or_eq.mp hi with hi | rfl
    · exact h1 i hi k' q' hk' hq'
    · rw [hk] at hk'
      cases hk'
      rw [hq] at hq'
      cases hq'
      exact h2
def Lab (n : Nat) (lab : List Nat) (ps : List (Nat × Nat)) (F : List Nat) : Prop := lab.length = n ∧ ∀ x y, x < n → y < n → (lab[x]? = lab[y]? ↔ Cn ps F x y)
theorem Lab.start (n : Nat) (ps : List (Nat × Nat)) : Lab n (List.range n) ps [] := by
  refine ⟨by simp, fun x y hx hy => ?_⟩
  rw [List.getElem?_range hx, List.getElem?_range hy]
  constructor
  · intro e
    cases e
    exact .rfl
  · intro h
    rw [h.nil]
theorem Lab.step {n : Nat} {lab F : List Nat} {k a b : Nat} {q : Nat × Nat} (L : Lab n lab ps F) (hk : ps[k]? = some q) (h1 : q.1 < n) (h2 : q.2 < n) (ha : lab[q.1]? = some a) (hb : lab[q.2]? = some b) :
    Lab n (lab.map fun l => if l = b then a else l) ps (F ++ [k]) := by
  obtain ⟨hl, hL⟩ := L
  refine ⟨by simp [hl], fun x y hx hy => ?_⟩
  rw [Cn.add hk, List.getElem?_map, List.getElem?_map]
  have ex : ∃ lx, lab[x]? = some lx := ⟨_, List.getElem?_eq_getElem (by omega)⟩
  have ey : ∃ ly, lab[y]? = some ly := ⟨_, List.getElem?_eq_getElem (by omega)⟩
  obtain ⟨lx, ex⟩ := ex
  obtain ⟨ly, ey⟩ := ey
  have c0 := hL x y hx hy
  have c1 := hL x q.1 hx h1
  have c2 := hL x q.2 hx h2
  have c3 := hL q.1 y h1 hy
  have c4 := hL q.2 y h2 hy
  rw [ex, ey] at c0
  rw [ex, ha] at c1
  rw [ex, hb] at c2
  rw [ha, ey] at c3
  rw [hb, ey] at c4
  rw [ex, ey, ← c0, ← c1, ← c2, ← c3, ← c4]
  simp only [Option.map_some, Option.some.injEq]
  by_cases z1 : lx = b <;> by_cases z2 : ly = b
  · rw [if_pos z1, if_pos z2]
    simp [z1, z2]
  · rw [if_pos z1, if_neg z2]
    constructor
    · intro e
      exact .inr (.inr ⟨z1, e⟩)
    · rintro (e | ⟨e1, e2⟩ | ⟨e1, e2⟩)
      · exact absurd (e.symm.trans z1) z2
      · exact absurd e2.symm z2
      · exact e2
  · rw [if_neg z1, if_pos z2]
    constructor
    · intro e
      exact .inr (.inl ⟨e, z2.symm⟩)
    · rintro (e | ⟨e1, e2⟩ | ⟨e1, e2⟩)
      · exact absurd (e.trans z2) z1
      · exact e1
      · exact absurd e1 z1
  · rw [if_neg z1, if_neg z2]
    constructor
    · exact .inl
    · rintro (e | ⟨e1, e2⟩ | ⟨e1, e2⟩)
      · exact e
      · exact absurd e2.symm z2
      · exact absurd e1 z1
end
theorem nodup_le {n : Nat} : ∀ {l : List Nat}, l.Nodup → (∀ x ∈ l, x < n) → l.length ≤ n := by
  induction n with
  | zero =>
    intro l _ h
    cases l with
    | nil => simp
    | cons a l => exact absurd (h a List.mem_cons_self) (Nat.not_lt_zero _)
  | succ n ih =>
    intro l nd h
    have h1 := ih (l := l.erase n) (nd.erase n) fun x hx => by
      have := (List.Nodup.mem_erase_iff nd).mp hx
      have := h x this.2
      omega
    have := List.length_erase (a := n) (l := l)
    split at this <;> omega
inductive Wk (ps : List (Nat × Nat)) (N : List Nat) (a : Nat) : Nat → List Nat → List Nat → Prop
  | nil : Wk ps N a a [] [a]
  | snoc {y z k : Nat} {q : Nat × Nat} {w vs : List Nat} (h : Wk ps N a y w vs) (hk : k ∈ N) (hq : ps[k]? = some q) (j : (q.1 = y ∧ q.2 = z) ∨ (q.1 = z ∧ q.2 = y)) (nz : z ∉ vs) : Wk ps N a z (w ++ [k]) (vs ++ [z])
theorem Wk.cn {ps : List (Nat × Nat)} {N : List Nat} {a x : Nat} {w vs : List Nat} (h : Wk ps N a x w vs) : Cn ps N a x := by
  induction h with
  | nil => exact .rfl
  | snoc _ hk hq j _ ih => exact .step ih ⟨_, hk, _, hq, j⟩
structure Sr (ps : List (Nat × Nat)) (N : List Nat) (n a : Nat) (al : List (Nat × List Nat)) (R : List Nat) (P : Nat → Nat → Prop) : Prop where
  nd : (al.map (·.1)).Nodup
  lt : ∀ p ∈ al, p.1 < n
  wk : ∀ p ∈ al, p.2.length < al.length ∧ ∃ vs, Wk ps N a p.1 p.2 vs ∧ ∀ v ∈ vs, v ∈ al.map (·.1)
  ha : a ∈ al.map (·.1)
  hR : ∀ x ∈ R, x ∈ al.map (·.1)
  hl : R.length ≤ al.length
  cl : ∀ x ∈ al.map (·.1), x ∉ R → ∀ y, Ad ps N x y → y ∈ al.map (·.1) ∨ P x y
theorem Sr.size {ps : List (Nat × Nat)} {N : List Nat} {n a : Nat} {al : List (Nat × List Nat)} {R : List Nat} {P : Nat → Nat → Prop} (S : Sr ps N n a al R P) : al.length ≤ n := by
  have := nodup_le (n := n) S.nd fun x hx => by
    obtain ⟨p, hp, rfl⟩ := List.mem_map.mp hx
    exact S.lt p hp
  simpa using this
theorem Sr.start {ps : List (Nat × Nat)} {N : List Nat} {n a : Nat} (h : a < n) : Sr ps N n a [(a, [])] [a] fun _ _ => False where
  nd := by simp
  lt := fun p hp => by rw [List.mem_singleton.mp hp]; exact h
  wk := fun p hp => by
    rw [List.mem_singleton.mp hp]
    exact ⟨by simp, [a], .nil, by simp⟩
  ha := by simp
  hR := by simp
  hl := by simp
  cl := fun x hx hr => by
    simp at hx hr
    exact absurd hx hr
theorem Sr.more {ps : List (Nat × Nat)} {N : List Nat} {n a x y k : Nat} {q : Nat × Nat} {w : List Nat} {al : List (Nat × List Nat)} {R : List Nat} {P : Nat → Nat → Prop} (S : Sr ps N n a al R P) (hx : (x, w) ∈ al) (hk : k ∈ N) (hq : ps[k]? = some q) (j : (q.1 = x ∧ q.2 = y) ∨ (q.1 = y ∧ q.2 = x)) (hy : y < n) (ny : y ∉ al.map (·.1)) :
    Sr ps N n a (al ++ [(y, w ++ [k])]) (R ++ [y]) P where
  nd := by
    rw [List.map_append, List.nodup_append]
    exact ⟨S.nd, by simp, fun u hu v hv e => by simp at hv; rw [e, hv] at hu; exact ny hu⟩
  lt := fun p hp => by
    rcases List.mem_append.mp hp with hp | hp
    · exact S.lt p hp
    · rw [List.mem_singleton.mp hp]
      exact hy
  wk := fun p hp => by
    have up : ∀ v, v ∈ al.map (·.1) → v ∈ (al ++ [(y, w ++ [k])]).map (·.1) := fun v hv => by rw [List.map_append]; exact List.mem_append_left _ hv
    rcases List.mem_append.mp hp with hp | hp
    · obtain ⟨h1, vs, h2, h3⟩ := S.wk p hp
      exact ⟨by rw [List.length_append]; omega, vs, h2, fun v hv => up v (h3 v hv)⟩
    · rw [List.mem_singleton.mp hp]
      obtain ⟨h1, vs, h2, h3⟩ := S.wk _ hx
      refine ⟨by simp at h1 ⊢; omega, vs ++ [y], .snoc h2 hk hq j (fun z => ny (h3 _ z)), fun v hv => ?_⟩
      rcases List.mem_append.mp hv with hv | hv
      · exact up v (h3 v hv)
      · rw [List.mem_singleton.mp hv]
        simp
  ha := by rw [List.map_append]; exact List.mem_append_left _ S.ha
  hR := fun u hu => by
    rw [List.map_append]
    rcases List.mem_append.mp hu with hu | hu
    · exact List.mem_append_left _ (S.hR u hu)
    · rw [List.mem_singleton.mp hu]
      simp
  hl := by
    have := S.hl
    simp
    exact this
  cl := fun u hu nu v hv => by
    rw [List.map_append] at hu ⊢
    rcases List.mem_append.mp hu with hu | hu
    · rcases S.cl u hu (fun z => nu (List.mem_append_left _ z)) v hv with h | h
      · exact .inl (List.mem_append_left _ h)
      · exact .inr h
    · simp at hu
      rw [hu] at nu
      exact absurd (by simp) nu
theorem Sr.imp {ps : List (Nat × Nat)} {N : List Nat} {n a : Nat} {al : List (Nat × List Nat)} {R : List Nat} {P P' : Nat → Nat → Prop} (S : Sr ps N n a al R P) (h : ∀ x y, x ∈ al.map (·.1) → x ∉ R → Ad ps N x y → P x y → y ∈ al.map (·.1) ∨ P' x y) : Sr ps N n a al R P' :=
  ⟨S.nd, S.lt, S.wk, S.ha, S.hR, S.hl, fun x hx hr y hy => (S.cl x hx hr y hy).elim .inl (h x y hx hr hy)⟩
theorem Sr.pop {ps : List (Nat × Nat)} {N : List Nat} {n a x : Nat} {al : List (Nat × List Nat)} {R : List Nat} {P : Nat → Nat → Prop} (S : Sr ps N n a al (R ++ [x]) P) : Sr ps N n a al R fun u v => P u v ∨ u = x where
  nd := S.nd
  lt := S.lt
  wk := S.wk
  ha := S.ha
  hR := fun u hu => S.hR u (List.mem_append_left _ hu)
  hl := by
    have := S.hl
    simp at this
    omega
  cl := fun u hu nu v hv => by
    by_cases z : u = x
    · exact .inr (.inr z)
    · rcases S.cl u hu (fun w => by
        rcases List.mem_append.mp w with w | w
        · exact nu w
        · exact z (List.mem_singleton.mp w)) v hv with h | h
      · exact .inl h
      · exact .inr (.inl h)
section
variable {ps : List (Nat × Nat)} {N : List Nat} {a x : Nat} {w vs : List Nat}
theorem Wk.last (h : Wk ps N a x w vs) : ∃ us, vs = us ++ [x] := by
  cases h with
  | nil => exact ⟨[], rfl⟩
  | snoc _ _ _ _ _ => exact ⟨_, rfl⟩
theorem Wk.mem (h : Wk ps N a x w vs) : x ∈ vs := by
  obtain ⟨us, rfl⟩ := h.last
  simp
theorem Wk.ties (h : Wk ps N a x w vs) : ∀ k ∈ w, k ∈ N ∧ ∃ q, ps[k]? = some q ∧ q.1 ∈ vs ∧ q.2 ∈ vs := by
  induction h with
  | nil => intro k hk; cases hk
  | @snoc y z k q w vs h hk hq j nz ih =>
    intro k' hk'
    rcases List.mem_append.mp hk' with h1 | h1
    · obtain ⟨i1, q', i2, i3, i4⟩ := ih k' h1
      exact ⟨i1, q', i2, List.mem_append_left _ i3, List.mem_append_left _ i4⟩
    · rw [List.mem_singleton.mp h1]
      have hy := h.mem
      refine ⟨hk, q, hq, ?_⟩
      rcases j with ⟨e1, e2⟩ | ⟨e1, e2⟩
      · rw [e1, e2]
        exact ⟨List.mem_append_left _ hy, by simp⟩
      · rw [e1, e2]
        exact ⟨by simp, List.mem_append_left _ hy⟩
theorem Wk.nodup (h : Wk ps N a x w vs) : w.Nodup ∧ vs.Nodup := by
  induction h with
  | nil => exact ⟨List.nodup_nil, by simp⟩
  | @snoc y z k q w vs h hk hq j nz ih =>
    constructor
    · rw [List.nodup_append]
      refine ⟨ih.1, by simp, fun u hu v hv e => ?_⟩
      rw [List.mem_singleton.mp hv] at e
      rw [e] at hu
      obtain ⟨_, q', hq', h1, h2⟩ := h.ties k hu
      rw [hq] at hq'
      cases hq'
      rcases j with ⟨_, e2⟩ | ⟨e1, _⟩
      · rw [e2] at h2
        exact nz h2
      · rw [e1] at h1
        exact nz h1
    · rw [List.nodup_append]
      exact ⟨ih.2, by simp, fun u hu v hv e => nz (by rw [List.mem_singleton.mp hv] at e; rw [← e]; exact hu)⟩
theorem Wk.len (h : Wk ps N a x w vs) : vs.length = w.length + 1 := by
  induction h with
  | nil => rfl
  | snoc _ _ _ _ _ ih => simp [ih]
def hop (q : Nat × Nat) (x : Nat) : Nat := if x = q.1 then q.2 else q.1
theorem hop_of {q : Nat × Nat} {y z : Nat} (j : (q.1 = y ∧ q.2 = z) ∨ (q.1 = z ∧ q.2 = y)) : (y = q.1 ∨ y = q.2) ∧ hop q y = z := by
  unfold hop
  rcases j with ⟨e1, e2⟩ | ⟨e1, e2⟩
  · exact ⟨.inl e1.symm, by rw [if_pos e1.symm]; exact e2⟩
  · refine ⟨.inr e2.symm, ?_⟩
    by_cases h : y = q.1
    · rw [if_pos h]
      omega
    · rw [if_neg h]
      exact e1
theorem Wk.at (h : Wk ps N a x w vs) : vs[0]? = some a ∧ ∀ i k, w[i]? = some k → ∃ q y z, ps[k]? = some q ∧ vs[i]? = some y ∧ vs[i + 1]? = some z ∧ (y = q.1 ∨ y = q.2) ∧ hop q y = z := by
  induction h with
  | nil => exact ⟨rfl, fun i k hk => by simp at hk⟩
  | @snoc y z k q w vs h hk hq j nz ih =>
    obtain ⟨i1, i2⟩ := ih
    have hl := h.len
    refine ⟨by rw [List.getElem?_append_left (by omega)]; exact i1, fun i k' hk' => ?_⟩
    by_cases hi : i < w.length
    · rw [List.getElem?_append_left hi] at hk'
      obtain ⟨q', y', z', h1, h2, h3, h4⟩ := i2 i k' hk'
      exact ⟨q', y', z', h1, by rw [List.getElem?_append_left (by omega)]; exact h2, by rw [List.getElem?_append_left (by omega)]; exact h3, h4⟩
    · have hi2 : i = w.length := by
        have := (List.getElem?_eq_some_iff.mp hk').1
        simp at this
        omega
      subst hi2
      rw [List.getElem?_append_right (Nat.le_refl _)] at hk'
      simp at hk'
      subst hk'
      obtain ⟨us, rfl⟩ := h.last
      simp at hl
      refine ⟨q, y, z, hq, ?_, ?_, hop_of j⟩
      · rw [List.getElem?_append_left (by simp; omega), List.getElem?_append_right (by omega)]
        simp [hl]
      · rw [List.getElem?_append_right (by simp; omega)]
        simp [hl]
end
end VL
set_option maxHeartbeats 4000000
namespace VL
section
variable {ps : List (Nat × Nat)} {N N' : List Nat} {n : Nat}
def Frs (ps : List (Nat × Nat)) (N : List Nat) : Prop := ∀ i ∈ N, ∀ q, ps[i]? = some q → ¬ Cn ps (N.filter fun j => decide (j ≠ i)) q.1 q.2
theorem Frs.sub (h : Frs ps N) (s : ∀ i ∈ N', i ∈ N) : Frs ps N' := fun i hi q hq c => h i (s i hi) q hq (c.mono fun j hj => by
  rw [List.mem_filter] at hj ⊢
  exact ⟨s j hj.1, hj.2⟩)
theorem Frs.nil : Frs ps [] := fun i hi => by cases hi
theorem Frs.add {k : Nat} {q : Nat × Nat} (h : Frs ps N) (hk : ps[k]? = some q) (c : ¬ Cn ps N q.1 q.2) (s : ∀ i ∈ N', i ∈ N ∨ i = k) : Frs ps N' := by
  have : Frs ps (N ++ [k]) := fun i hi q' hq' cc => by
    by_cases z : i = k
    · subst z
      rw [hk] at hq'
      cases hq'
      refine c (cc.mono fun j hj => ?_)
      rw [List.mem_filter, List.mem_append, List.mem_singleton] at hj
      rcases hj with ⟨hj | hj, h2⟩
      · exact hj
      · exact absurd hj (of_decide_eq_true h2)
    · have hiN : i ∈ N := by
        rcases List.mem_append.mp hi with h | h
        · exact h
        · exact absurd (List.mem_singleton.mp h) z
      have cc2 : Cn ps ((N.filter fun j => decide (j ≠ i)) ++ [k]) q'.1 q'.2 := cc.mono fun j hj => by
        rw [List.mem_filter, List.mem_append] at hj
        rw [List.mem_append, List.mem_filter]
        rcases hj with ⟨hj | hj, h2⟩
        · exact .inl ⟨hj, h2⟩
        · exact .inr hj
      have up : ∀ {x y}, Cn ps (N.filter fun j => decide (j ≠ i)) x y → Cn ps N x y := fun h => h.mono fun j hj => (List.mem_filter.mp hj).1
      have ad : Cn ps N q'.1 q'.2 := .step .rfl ⟨i, hiN, q', hq', .inl ⟨rfl, rfl⟩⟩
      rcases (Cn.add hk).mp cc2 with h1 | ⟨h1, h2⟩ | ⟨h1, h2⟩
      · exact h i hiN q' hq' h1
      · exact c (((up h1).symm.trans ad).trans (up h2).symm)
      · exact c (((up h2).trans ad.symm).trans (up h1))
  exact this.sub fun i hi => by
    rw [List.mem_append, List.mem_singleton]
    exact s i hi
theorem Wk.cut {a b k : Nat} {w vs : List Nat} (h : Wk ps N a b w vs) (hk : k ∈ w) : ∃ x y q, ps[k]? = some q ∧ ((q.1 = x ∧ q.2 = y) ∨ (q.1 = y ∧ q.2 = x)) ∧ Cn ps (w.filter fun j => decide (j ≠ k)) a x ∧ Cn ps (w.filter fun j => decide (j ≠ k)) y b := by
  induction h with
  | nil => cases hk
  | snoc h hkN hq j nz ih =>
    rename_i y z k' q w vs
    have nd := (Wk.snoc h hkN hq j nz).nodup.1
    rw [List.nodup_append] at nd
    have cw : Cn ps w a y := by
      clear ih nd nz hkN j hq hk
      induction h with
      | nil => exact .rfl
      | snoc h2 hk2 hq2 j2 nz2 ih2 => exact .step (ih2.mono fun i hi => List.mem_append_left _ hi) ⟨_, List.mem_append_right _ (List.mem_singleton.mpr rfl), _, hq2, j2⟩
    by_cases e : k ∈ w
    · obtain ⟨x0, y0, q0, h1, h2, h3, h4⟩ := ih e
      have ne : k' ≠ k := fun z => nd.2.2 k e k' (by simp) z.symm
      have sb : ∀ i ∈ w.filter (fun j => decide (j ≠ k)), i ∈ (w ++ [k']).filter fun j => decide (j ≠ k) := fun i hi => by
        rw [List.mem_filter] at hi ⊢
        exact ⟨List.mem_append_left _ hi.1, hi.2⟩
      refine ⟨x0, y0, q0, h1, h2, h3.mono sb, .step (h4.mono sb) ⟨k', ?_, q, hq, j⟩⟩
      rw [List.mem_filter]
      exact ⟨List.mem_append_right _ (List.mem_singleton.mpr rfl), decide_eq_true ne⟩
    · have : k = k' := by
        rcases List.mem_append.mp hk with h | h
        · exact absurd h e
        · exact List.mem_singleton.mp h
      subst this
      refine ⟨y, z, q, hq, j, cw.mono fun i hi => ?_, .rfl⟩
      rw [List.mem_filter]
      exact ⟨List.mem_append_left _ hi, decide_eq_true fun z => e (by rw [← z]; exact hi)⟩
theorem Frs.cut {a b k : Nat} {w vs : List Nat} (h : Frs ps N) (hw : Wk ps N a b w vs) (hk : k ∈ w) : ¬ Cn ps (N.filter fun j => decide (j ≠ k)) a b := fun c => by
  obtain ⟨x, y, q, h1, h2, h3, h4⟩ := hw.cut hk
  have hN := hw.ties
  have sb : ∀ i ∈ w.filter (fun j => decide (j ≠ k)), i ∈ N.filter fun j => decide (j ≠ k) := fun i hi => by
    rw [List.mem_filter] at hi ⊢
    exact ⟨(hN i hi.1).1, hi.2⟩
  have g := ((h3.mono sb).symm.trans c).trans (h4.mono sb).symm
  rcases h2 with ⟨rfl, rfl⟩ | ⟨rfl, rfl⟩
  · exact h k (hN k hk).1 q h1 g
  · exact h k (hN k hk).1 q h1 g.symm
theorem Frs.own {k : Nat} {q : Nat × Nat} {w vs : List Nat} (h : Frs ps N) (hk : k ∈ N) (hq : ps[k]? = some q) (hw : Wk ps N q.1 q.2 w vs) : w = [k] := by
  have kw : k ∈ w := Classical.byContradiction fun z => by
    refine h k hk q hq ?_
    have cw : ∀ {a b w vs}, Wk ps N a b w vs → Cn ps w a b := fun {a b w vs} h => by
      induction h with
      | nil => exact .rfl
      | snoc h2 hk2 hq2 j2 nz2 ih2 => exact .step (ih2.mono fun i hi => List.mem_append_left _ hi) ⟨_, List.mem_append_right _ (List.mem_singleton.mpr rfl), _, hq2, j2⟩
    refine (cw hw).mono fun i hi => ?_
    rw [List.mem_filter]
    exact ⟨(hw.ties i hi).1, decide_eq_true fun e => z (by rw [← e]; exact hi)⟩
  obtain ⟨i, hi, ei⟩ := List.mem_iff_getElem.mp kw
  obtain ⟨a0, at_⟩ := hw.at
  obtain ⟨q', y, z, h1, h2, h3, h4, h5⟩ := at_ i k (by rw [List.getElem?_eq_getElem hi, ei])
  rw [hq] at h1
  cases h1
  have nd := hw.nodup.2
  have hl := hw.len
  obtain ⟨us, hus⟩ := hw.last
  have i0 : ∀ {i j : Nat} {x : Nat}, vs[i]? = some x → vs[j]? = some x → i = j := fun {i j x} e1 e2 => (List.getElem?_inj (List.getElem?_eq_some_iff.mp e1).1 nd).mp (e1.trans e2.symm)
  have hlast : vs[w.length]? = some q.2 := by
    rw [hus] at hl ⊢
    simp at hl
    rw [← hl]
    simp
  have hne : q.1 ≠ q.2 := fun e => by
    have := i0 a0 (by rw [e]; exact hlast)
    omega
  rcases h4 with rfl | rfl
  · have e0 := i0 h2 a0
    have z2 : z = q.2 := by rw [← h5]; simp [hop]
    rw [z2] at h3
    have e1 := i0 h3 hlast
    have : w.length = 1 := by omega
    rcases w with _ | ⟨a, _ | ⟨b, r⟩⟩
    · simp at this
    · rw [List.mem_singleton.mp kw]
    · simp at this
  · have z2 : z = q.1 := by rw [← h5]; simp [hop, hne.symm]
    rw [z2] at h3
    have := i0 h3 a0
    omega
abbrev Hm := Nat → Option Nat
def wd (m : Nat) (h : Hm) (u : Nat) : List Nat := (List.range m).filter fun i => decide (h i = some u)
theorem mem_wd {m u i : Nat} {h : Hm} : i ∈ wd m h u ↔ i < m ∧ h i = some u := by
  unfold wd
  rw [List.mem_filter, List.mem_range, decide_eq_true_eq]
def AllF (ps : List (Nat × Nat)) (h : Hm) : Prop := ∀ u, Frs ps (wd ps.length h u)
def newh (h : Hm) (w : Nat) : List Nat → Option Nat
  | [] => some w
  | t :: _ => h t
def Ch (ps : List (Nat × Nat)) (h : Hm) (w : Nat) : List Nat → Prop
  | [] => True
  | [t] => ∃ q, ps[t]? = some q ∧ ¬ Cn ps (wd ps.length h w) q.1 q.2
  | t :: t' :: r => (∃ q u ww vs, ps[t]? = some q ∧ h t' = some u ∧ Wk ps (wd ps.length h u) q.1 q.2 ww vs ∧ t' ∈ ww ∧ ∀ x ∈ r, x ∉ ww) ∧ Ch ps h w (t' :: r)
theorem Ch.ne {h : Hm} {w t : Nat} {r : List Nat} (A : AllF ps h) (nd : (t :: r).Nodup) (c : Ch ps h w (t :: r)) : newh h w r ≠ h t := by
  cases r with
  | nil =>
    obtain ⟨q, hq, hc⟩ := c
    intro z
    have z : some w = h t := z
    exact hc (.step .rfl ⟨t, mem_wd.mpr ⟨(List.getElem?_eq_some_iff.mp hq).1, z.symm⟩, q, hq, .inl ⟨rfl, rfl⟩⟩)
  | cons t' r =>
    obtain ⟨⟨q, u, ww, vs, h1, h2, h3, h4, _⟩, _⟩ := c
    intro z
    have z : h t' = h t := z
    rw [h2] at z
    have := (A u).own (mem_wd.mpr ⟨(List.getElem?_eq_some_iff.mp h1).1, z.symm⟩) h1 h3
    rw [this, List.mem_singleton] at h4
    rw [List.nodup_cons] at nd
    exact nd.1 (by rw [h4]; exact List.mem_cons_self)
end
end VL
set_option maxHeartbeats 4000000
namespace VL
section
variable {ps : List (Nat × Nat)} {N P : List Nat} {n : Nat}
theorem Frs.free (h : Frs ps N) (nd : N.Nodup) : Free ps N N.length := fun i hi k q hk hq c => by
  refine h k (List.mem_of_getElem? hk) q hq (c.mono fun j hj => ?_)
  rw [List.mem_filter]
  refine ⟨List.mem_of_mem_take hj, decide_eq_true fun e => ?_⟩
  subst e
  obtain ⟨x, hx, ex⟩ := List.mem_iff_getElem.mp hj
  rw [List.getElem_take] at ex
  have hx' : x < i := by simp at hx; omega
  have := (List.getElem?_inj (i := x) (j := i) (by omega) nd).mp (by rw [hk, List.getElem?_eq_getElem (by omega), ex])
  omega
theorem Cn.out (hN : ∀ k ∈ N, ∀ q, ps[k]? = some q → q.1 ∈ P ∧ q.2 ∈ P) {x y : Nat} (hx : x ∉ P) (c : Cn ps N x y) : y = x := by
  induction c with
  | rfl => rfl
  | step c a ih =>
    obtain ⟨i, hi, q, hq, j⟩ := a
    have := hN i hi q hq
    subst ih
    rcases j with ⟨rfl, _⟩ | ⟨_, rfl⟩
    · exact absurd this.1 hx
    · exact absurd this.2 hx
end
end VL
set_option maxHeartbeats 4000000
namespace VL
section
variable {ps : List (Nat × Nat)} {h : Hm} {many num : Nat}
structure Bx (ps : List (Nat × Nat)) (h : Hm) (many num : Nat) (ms pr : List Nat) (c : Nat) : Prop where
  nd : ms.Nodup
  hd : ms[0]? = some num
  len : pr.length = ms.length
  lt : ∀ t ∈ ms, t < ps.length
  hn : h num = none
  le : ∀ p i : Nat, pr[p]? = some i → i ≤ c
  par : ∀ p : Nat, 1 ≤ p → p < ms.length → ∃ i t k : Nat, pr[p]? = some i ∧ i < p ∧ ms[i]? = some t ∧ ms[p]? = some k ∧ ∃ q u w vs, ps[t]? = some q ∧ u < many ∧ h k = some u ∧ Wk ps (wd ps.length h u) q.1 q.2 w vs ∧ k ∈ w ∧ ∀ x ∈ w, ∃ p' i' : Nat, ms[p']? = some x ∧ pr[p']? = some i' ∧ i' ≤ i
def Asked (ps : List (Nat × Nat)) (h : Hm) (ms : List Nat) (i u : Nat) : Prop := ∀ t q, ms[i]? = some t → ps[t]? = some q → ∀ v, v < u → ∃ w vs, Wk ps (wd ps.length h v) q.1 q.2 w vs ∧ ∀ x ∈ w, x ∈ ms
theorem Bx.start (hl : num < ps.length) (hn : h num = none) : Bx ps h many num [num] [0] 0 where
  nd := by simp
  hd := rfl
  len := rfl
  lt := fun t ht => by rw [List.mem_singleton.mp ht]; exact hl
  hn := hn
  le := fun p i e => by
    cases p with
    | zero => simp at e; omega
    | succ p => simp at e
  par := fun p h1 h2 => by simp at h2; omega
theorem Asked.mono {ms ms' : List Nat} {i u : Nat} (a : Asked ps h ms i u) (hi : i < ms.length) : Asked ps h (ms ++ ms') i u := fun t q ht hq v hv => by
  rw [List.getElem?_append_left hi] at ht
  obtain ⟨w, vs, h1, h2⟩ := a t q ht hq v hv
  exact ⟨w, vs, h1, fun x hx => List.mem_append_left _ (h2 x hx)⟩
def fresh (ms w : List Nat) : List Nat := w.filter fun x => decide (x ∉ ms)
theorem mem_fresh {ms w : List Nat} {x : Nat} : x ∈ fresh ms w ↔ x ∈ w ∧ x ∉ ms := by
  unfold fresh
  rw [List.mem_filter, decide_eq_true_eq]
theorem Bx.more {ms pr : List Nat} {c t u : Nat} {q : Nat × Nat} {w vs : List Nat} (B : Bx ps h many num ms pr c) (ht : ms[c]? = some t) (hq : ps[t]? = some q) (hu : u < many) (hw : Wk ps (wd ps.length h u) q.1 q.2 w vs) :
    Bx ps h many num (ms ++ fresh ms w) (pr ++ List.replicate (fresh ms w).length c) c := by
  have hc : c < ms.length := (List.getElem?_eq_some_iff.mp ht).1
  have prOld : ∀ {p i : Nat}, pr[p]? = some i → (pr ++ List.replicate (fresh ms w).length c)[p]? = some i := fun {p i} e => by rw [List.getElem?_append_left (List.getElem?_eq_some_iff.mp e).1]; exact e
  have msOld : ∀ {p i : Nat}, ms[p]? = some i → (ms ++ fresh ms w)[p]? = some i := fun {p i} e => by rw [List.getElem?_append_left (List.getElem?_eq_some_iff.mp e).1]; exact e
  have hww := hw.ties
  have allW : ∀ x ∈ w, ∃ p' i' : Nat, (ms ++ fresh ms w)[p']? = some x ∧ (pr ++ List.replicate (fresh ms w).length c)[p']? = some i' ∧ i' ≤ c := fun x hx => by
    by_cases z : x ∈ ms
    · obtain ⟨p, hp, ep⟩ := List.mem_iff_getElem.mp z
      have e1 : ms[p]? = some x := by rw [List.getElem?_eq_getElem hp, ep]
      have e2 : pr[p]? = some (pr[p]'(by rw [B.len]; exact hp)) := List.getElem?_eq_getElem _
      exact ⟨p, _, msOld e1, prOld e2, B.le p _ e2⟩
    · obtain ⟨p, hp, ep⟩ := List.mem_iff_getElem.mp (mem_fresh.mpr ⟨hx, z⟩)
      refine ⟨ms.length + p, c, ?_, ?_, Nat.le_refl _⟩
      · rw [List.getElem?_append_right (by omega), Nat.add_sub_cancel_left, List.getElem?_eq_getElem hp, ep]
      · rw [List.getElem?_append_right (by rw [B.len]; omega), B.len, Nat.add_sub_cancel_left, List.getElem?_replicate, if_pos hp]
  refine ⟨?_, msOld B.hd, by simp [B.len], fun x hx => ?_, B.hn, fun p i e => ?_, fun p h1 h2 => ?_⟩
  · rw [List.nodup_append]
    exact ⟨B.nd, hw.nodup.1.filter _, fun a ha b hb e => (mem_fresh.mp hb).2 (by rw [← e]; exact ha)⟩
  · rcases List.mem_append.mp hx with hx | hx
    · exact B.lt x hx
    · exact (mem_wd.mp (hww x (mem_fresh.mp hx).1).1).1
  · by_cases z : p < pr.length
    · rw [List.getElem?_append_left z] at e
      exact B.le p i e
    · rw [List.getElem?_append_right (by omega), List.getElem?_replicate] at e
      split at e
      · cases e
        exact Nat.le_refl _
      · cases e
  · by_cases z : p < ms.length
    · obtain ⟨i, t', k, a1, a2, a3, a4, q', u', w', vs', b1, b2, b3, b4, b5, b6⟩ := B.par p h1 z
      exact ⟨i, t', k, prOld a1, a2, msOld a3, msOld a4, q', u', w', vs', b1, b2, b3, b4, b5, fun x hx => let ⟨p', i', e1, e2, e3⟩ := b6 x hx; ⟨p', i', msOld e1, prOld e2, e3⟩⟩
    · rw [List.length_append] at h2
      have hp : p - ms.length < (fresh ms w).length := by omega
      have ek : (ms ++ fresh ms w)[p]? = some (fresh ms w)[p - ms.length] := by rw [List.getElem?_append_right (by omega), List.getElem?_eq_getElem hp]
      have hk := mem_fresh.mp (List.getElem_mem hp)
      refine ⟨c, t, _, ?_, by omega, msOld ht, ek, q, u, w, vs, hq, hu, (mem_wd.mp (hww _ hk.1).1).2, hw, hk.1, allW⟩
      rw [List.getElem?_append_right (by rw [B.len]; omega), B.len, List.getElem?_replicate, if_pos hp]
theorem Bx.next {ms pr : List Nat} {c : Nat} (B : Bx ps h many num ms pr c) : Bx ps h many num ms pr (c + 1) := { B with le := fun p i e => Nat.le_succ_of_le (B.le p i e) }
def IsCh (pr : List Nat) (c : Nat) : List Nat → Prop
  | [] => False
  | [i] => i = c
  | i :: j :: r => pr[j]? = some i ∧ 1 ≤ j ∧ IsCh pr c (j :: r)
theorem IsCh.up {ms pr : List Nat} {c : Nat} (B : Bx ps h many num ms pr c) (hc : c < ms.length) : ∀ {js : List Nat}, IsCh pr c js → (∀ j ∈ js, j < ms.length) ∧ js.Pairwise (· < ·) ∧ ∀ i r, js = i :: r → ∀ j ∈ r, ∃ i', pr[j]? = some i' ∧ i ≤ i'
  | [], h => h.elim
  | [i], h => ⟨fun j hj => by rw [List.mem_singleton.mp hj, show i = c from h]; exact hc, by simp, fun i' r e j hj => by cases e; cases hj⟩
  | i :: j :: r, h => by
    obtain ⟨h1, h2, h3⟩ := h
    obtain ⟨a1, a2, a3⟩ := IsCh.up B hc h3
    have hj := a1 j List.mem_cons_self
    obtain ⟨i', _, _, b1, b2, _⟩ := B.par j h2 hj
    rw [h1] at b1
    cases b1
    rw [List.pairwise_cons] at a2
    refine ⟨fun x hx => ?_, List.pairwise_cons.mpr ⟨fun x hx => ?_, List.pairwise_cons.mpr a2⟩, fun i' r' e x hx => ?_⟩
    · rcases List.mem_cons.mp hx with rfl | hx
      · omega
      · exact a1 x hx
    · rcases List.mem_cons.mp hx with rfl | hx
      · exact b2
      · have := a2.1 x hx
        omega
    · cases e
      rcases List.mem_cons.mp hx with rfl | hx
      · exact ⟨i, h1, Nat.le_refl _⟩
      · obtain ⟨i2, c1, c2⟩ := a3 j r rfl x hx
        exact ⟨i2, c1, by omega⟩
theorem IsCh.ch {ms pr : List Nat} {c t u : Nat} {q : Nat × Nat} (B : Bx ps h many num ms pr c) (ht : ms[c]? = some t) (hq : ps[t]? = some q) (hno : ¬ Cn ps (wd ps.length h u) q.1 q.2) : ∀ {js : List Nat}, IsCh pr c js → Ch ps h u (js.map fun j => ms.getD j 0)
  | [], h => h.elim
  | [i], hi => by
    have hi : i = c := hi
    subst hi
    have : ms.getD i 0 = t := by rw [List.getD_eq_getElem?_getD, ht]; rfl
    exact ⟨q, by show ps[ms.getD i 0]? = _; rw [this]; exact hq, hno⟩
  | i :: j :: r, hi => by
    have hc : c < ms.length := (List.getElem?_eq_some_iff.mp ht).1
    obtain ⟨h1, h2, h3⟩ := hi
    obtain ⟨a1, a2, a3⟩ := IsCh.up B hc h3
    have hj := a1 j List.mem_cons_self
    obtain ⟨i', t', k, b1, b2, b3, b4, q', u', w, vs, c1, c2, c3, c4, c5, c6⟩ := B.par j h2 hj
    rw [h1] at b1
    cases b1
    have ei : ms.getD i 0 = t' := by rw [List.getD_eq_getElem?_getD, b3]; rfl
    have ej : ms.getD j 0 = k := by rw [List.getD_eq_getElem?_getD, b4]; rfl
    refine ⟨⟨q', u', w, vs, by show ps[ms.getD i 0]? = _; rw [ei]; exact c1, by show h (ms.getD j 0) = _; rw [ej]; exact c3, c4, by show ms.getD j 0 ∈ w; rw [ej]; exact c5, fun x hx hxw => ?_⟩, IsCh.ch B ht hq hno h3⟩
    obtain ⟨y, hy, rfl⟩ := List.mem_map.mp hx
    obtain ⟨p', i2, d1, d2, d3⟩ := c6 _ hxw
    obtain ⟨i3, e1, e2⟩ := a3 j r rfl y hy
    have hyl := a1 y (List.mem_cons_of_mem _ hy)
    have ey : ms[y]? = some (ms.getD y 0) := by rw [List.getD_eq_getElem?_getD, List.getElem?_eq_getElem hyl]; rfl
    have : p' = y := (List.getElem?_inj (List.getElem?_eq_some_iff.mp d1).1 B.nd).mp (d1.trans ey.symm)
    subst this
    rw [d2] at e1
    cases e1
    omega
theorem IsCh.nd {ms pr : List Nat} {c : Nat} (B : Bx ps h many num ms pr c) (hc : c < ms.length) {js : List Nat} (hj : IsCh pr c js) : (js.map fun j => ms.getD j 0).Nodup := by
  obtain ⟨a1, a2, _⟩ := IsCh.up B hc hj
  rw [List.nodup_iff_pairwise_ne, List.pairwise_map]
  refine a2.imp_of_mem fun {x y} hx hy hlt e => ?_
  have g : ∀ z, z < ms.length → ms[z]? = some (ms.getD z 0) := fun z hz => by rw [List.getD_eq_getElem?_getD, List.getElem?_eq_getElem hz]; rfl
  have := (List.getElem?_inj (a1 x hx) B.nd).mp ((g x (a1 x hx)).trans ((congrArg some e).trans (g y (a1 y hy)).symm))
  omega
theorem Bx.all {ms pr : List Nat} {c : Nat} (B : Bx ps h many num ms pr c) {q0 : Nat × Nat} (h0 : ps[num]? = some q0) : ∀ (b p : Nat), p ≤ b → ∀ k q, ms[p]? = some k → ps[k]? = some q → Cn ps ms q0.1 q.1 ∧ Cn ps ms q0.1 q.2 := by
  have adj : ∀ k q, k ∈ ms → ps[k]? = some q → Cn ps ms q.1 q.2 := fun k q hk hq => .step .rfl ⟨k, hk, q, hq, .inl ⟨rfl, rfl⟩⟩
  have base : ∀ k q, ms[0]? = some k → ps[k]? = some q → Cn ps ms q0.1 q.1 ∧ Cn ps ms q0.1 q.2 := fun k q hk hq => by
    rw [B.hd] at hk
    cases hk
    rw [h0] at hq
    cases hq
    exact ⟨.rfl, adj num q0 (List.mem_of_getElem? B.hd) h0⟩
  intro b
  induction b with
  | zero =>
    intro p hp k q hk hq
    have : p = 0 := by omega
    subst this
    exact base k q hk hq
  | succ b ih =>
    intro p hp k q hk hq
    cases p with
    | zero => exact base k q hk hq
    | succ p =>
      have hpl := (List.getElem?_eq_some_iff.mp hk).1
      obtain ⟨i, t, k', a1, a2, a3, a4, q', u, w, vs, b1, b2, b3, b4, b5, b6⟩ := B.par (p + 1) (by omega) hpl
      rw [hk] at a4
      cases a4
      obtain ⟨g1, g2⟩ := ih i (by omega) t q' a3 b1
      obtain ⟨x, y, q2, c1, c2, c3, c4⟩ := b4.cut b5
      rw [hq] at c1
      cases c1
      have sb : ∀ {x y}, Cn ps (w.filter fun j => decide (j ≠ k)) x y → Cn ps ms x y := fun h => h.mono fun j hj => let ⟨p', i', e1, _⟩ := b6 j (List.mem_filter.mp hj).1; List.mem_of_getElem? e1
      have gx := g1.trans (sb c3)
      have aj := adj k q (List.mem_of_getElem? hk) hq
      rcases c2 with ⟨rfl, rfl⟩ | ⟨rfl, rfl⟩
      · exact ⟨gx, gx.trans aj⟩
      · exact ⟨gx.trans aj.symm, gx⟩
end
end VL
set_option maxHeartbeats 4000000
namespace VL
section
variable {ps : List (Nat × Nat)} {h : Hm} {many num n : Nat} {P : List Nat}
def cw (I : List Nat) (h : Hm) (many : Nat) : Nat := (I.filter fun i => match h i with
  | some u => decide (u < many)
  | none => false).length
end
end VL
set_option maxHeartbeats 4000000
namespace VL
open PySem PySem.Spec PyProof.Rows L2
def PotD (p : D) : Prop := ∃ a b : Int, p = .lst [.int a, .int b]
theorem take_ok {p : D} {m : Int} (hp : PotD p) (h0 : 0 < m) (h1 : m < 1073741824) : ∃ (d : Nat) (p' : D), PotD p' ∧ (d : Int) < m ∧ f_law_take [p, .int m] = some (nm d, [p']) := by
  obtain ⟨a, b, rfl⟩ := hp
  by_cases ha : 0 < a
  · have z1 := Int.emod_lt_of_pos a h0
    have z2 := Int.emod_nonneg a (b := m) (by omega)
    have e : ((a % m).toNat : Int) = a % m := by omega
    refine ⟨(a % m).toNat, .lst [.int (a / m), .int b], ⟨_, _, rfl⟩, by omega, ?_⟩
    simp! [f_law_take, d_law_take, ha, h0, h1, atI, ixN, e]
  · have z1 := Int.emod_lt_of_pos ((b * 39373 + 7919) % 2147483629 * ((b * 39373 + 7919) % 2147483629) % 2147483563 / 11) h0
    have z2 := Int.emod_nonneg ((b * 39373 + 7919) % 2147483629 * ((b * 39373 + 7919) % 2147483629) % 2147483563 / 11) (b := m) (by omega)
    have z3 := Int.emod_lt_of_pos (b * 39373 + 7919) (b := 2147483629) (by omega)
    have z4 := Int.emod_nonneg (b * 39373 + 7919) (b := 2147483629) (by omega)
    generalize hc : (b * 39373 + 7919) % 2147483629 = c at *
    refine ⟨(c * c % 2147483563 / 11 % m).toNat, .lst [.int a, .int c], ⟨_, _, rfl⟩, by omega, ?_⟩
    have e : ((c * c % 2147483563 / 11 % m).toNat : Int) = c * c % 2147483563 / 11 % m := by omega
    have z5 : -18446744073709551616 < c ∧ c < 18446744073709551616 := by omega
    simp! [f_law_take, d_law_take, ha, h0, h1, atI, ixN, e, hc, z5]
abbrev ln (p : Nat × Nat) : D := .tup [nm p.1, nm p.2]
theorem atomL_ln : ∀ qs : List (Nat × Nat), D.atomL (qs.map ln) = true
  | [] => rfl
  | q :: qs => by
    show (D.atom (ln q) && D.atomL (qs.map ln)) = true
    rw [atomL_ln qs]
    rfl
abbrev lsD (ss : List Nat) : D := .lst (ss.map nm)
theorem get_ex {α : Type} {l : List α} {i : Nat} (h : i < l.length) : ∃ a, l[i]? = some a := ⟨l[i], List.getElem?_eq_getElem h⟩
theorem map_get {α β : Type} {g : α → β} {l : List α} {i : Nat} {x : β} (h : (l.map g)[i]? = some x) : ∃ b, l[i]? = some b ∧ x = g b := by
  rw [List.getElem?_map, Option.map_eq_some_iff] at h
  obtain ⟨b, h1, h2⟩ := h
  exact ⟨b, h1, h2.symm⟩
end VL
set_option maxHeartbeats 4000000
namespace VL
open PySem PySem.Spec PyProof.Rows L2
abbrev Gp (p : Nat) (q : Nat × Nat) : Prop := q.1 < p ∧ q.2 < p ∧ q.1 ≠ q.2
theorem pair_ok {P : D} {p : Nat} {L : List (Nat × Nat)} (hp : PotD P) (h1 : 2 ≤ p) (h2 : p ≤ 9) (hL : ∀ q ∈ L, Gp p q) (hl : L.length ≤ 31) : ∃ q P', PotD P' ∧ Gp p q ∧ f_law_pair [P, nm p, .lst (L.map ln)] = some (ln q, [P']) := by
  have fresh : ∀ {P : D}, PotD P → ∃ q P2 P3, PotD P3 ∧ Gp p q ∧ ∃ a b : Nat, f_law_take [P, nm p] = some (nm a, [P2]) ∧ f_law_take [P2, .int ((p : Int) - 1)] = some (nm b, [P3]) ∧ (((a : Int) + 1 + b) % p) = (q.2 : Int) ∧ q.1 = a := fun {P} hp => by
    obtain ⟨a, P2, hp2, ha, e2⟩ := take_ok hp (m := (p : Int)) (by omega) (by omega)
    obtain ⟨b, P3, hp3, hb, e3⟩ := take_ok hp2 (m := (p : Int) - 1) (by omega) (by omega)
    have ha' : a < p := by omega
    have hb' : b < p - 1 := by omega
    refine ⟨(a, (a + 1 + b) % p), P2, P3, hp3, ⟨ha', Nat.mod_lt _ (by omega), ?_⟩, a, b, e2, e3, by push_cast; rfl, rfl⟩
    show a ≠ (a + 1 + b) % p
    by_cases h : a + 1 + b < p
    · rw [Nat.mod_eq_of_lt h]; omega
    · rw [Nat.mod_eq_sub_mod (by omega), Nat.mod_eq_of_lt (by omega)]; omega
  have last : ∀ {P : D}, PotD P → ∃ q P', PotD P' ∧ Gp p q ∧ ∀ (E0 : Option (Mode × D)), Wp (sSeq (sSet 3 .own (eCall f_law_take [0] (lCons (eVar 0) (lCons (eVar 1) lNil)))) (sRet true .own (ePrim pTup (lCons (eOwn (.sub 3) (eVar 3)) (lCons (ePrim pMod (lCons (ePrim pAdd (lCons (ePrim pAdd (lCons (eVar 3) (lCons (eC (.int 1)) lNil))) (lCons (eCall f_law_take [0] (lCons (eVar 0) (lCons (ePrim pSub (lCons (eVar 1) (lCons (eC (.int 1)) lNil))) lNil))) lNil))) (lCons (eVar 1) lNil))) lNil))))) [some (.io, P), some (.arg, nm p), some (.arg, .lst (L.map ln)), none] (CallQ (fun d ds' => d = ln q ∧ ds' = [P']) [0]) := fun {P} hp => by
    obtain ⟨q, P2, P3, hp3, g, a, b, e2, e3, ee, eq⟩ := fresh hp
    refine ⟨q, P3, hp3, g, fun _ => ?_⟩
    simp only [nm] at e2 e3
    have p0 : 0 < p := by omega
    have fin : ∀ E, ioOut E [0] = some [P3] → CallQ (fun d ds' => d = ln q ∧ ds' = [P3]) [0] (.rt (.tup [.int a, .int q.2]) E) := fun E e => cq_rt e ⟨by show D.tup [.int a, .int q.2] = .tup [.int q.1, .int q.2]; rw [eq], rfl⟩
    (refine wp_seq (wp_gen fun R hR => ?_); simp! [sizeLine_eq, e2]; subst hR; first | rw [Aft_nx] | rw [Aft_rt] | skip)
    (refine wp_gen fun R hR => ?_; simp! [sizeLine_eq, e3, ee, p0, sizeLine_eq]; subst hR)
    exact fin _ rfl
  by_cases hL0 : L = []
  · subst hL0
    obtain ⟨q, P', hp', g, h⟩ := last hp
    refine ⟨q, P', hp', g, ?_⟩
    obtain ⟨d, ds', e, rfl, rfl⟩ := wp_call (S := d_law_pair) (N := 4) (J := [0]) (ds := [P, nm p, .lst []]) (fun d ds' => d = ln q ∧ ds' = [P']) (by
      have st : startE 4 [0] [P, nm p, .lst []] = [some (.io, P), some (.arg, nm p), some (.arg, .lst []), none] := by simp [startE]
      rw [st]
      unfold d_law_pair
      have pe0 : pEq true [.lst [], .lst []] = some (.bl false) := by simpa using pEq_nm true [] []
      (refine wp_seq (wp_gen fun R hR => ?_); simp! [sizeLine_eq, pe0]; subst hR; first | rw [Aft_nx] | rw [Aft_rt] | skip)
      exact h none)
    exact e
  · have hpos : 0 < L.length := List.length_pos_iff.mpr hL0
    obtain ⟨c, P1, hp1, hc, e1⟩ := take_ok hp (m := 4) (by omega) (by omega)
    have pe : pEq true [.lst (L.map ln), .lst []] = some (.bl true) := pEq_lnil (n := 2) (sh_lst.mpr fun d hd => by
        obtain ⟨q, _, rfl⟩ := List.mem_map.mp hd
        exact sh_tup.mpr fun d hd => by
          simp only [List.mem_cons, List.not_mem_nil, or_false] at hd
          rcases hd with rfl | rfl <;> exact sh_int _) (by omega) (by simpa using hL0)
    by_cases c0 : c = 0
    · subst c0
      obtain ⟨d, P2, hp2, hd, e2⟩ := take_ok hp1 (m := (L.length : Int)) (by omega) (by omega)
      have hd' : d < L.length := by omega
      have j0 := atI_nat (L.map ln) d
      rw [List.getElem?_map, List.getElem?_eq_getElem hd'] at j0
      simp only [Option.map_some] at j0
      have g := hL L[d] (List.getElem_mem hd')
      generalize L[d] = q at *
      refine ⟨(q.2, q.1), P2, hp2, ⟨g.2.1, g.1, fun z => g.2.2 z.symm⟩, ?_⟩
      obtain ⟨dd, ds', e, rfl, rfl⟩ := wp_call (S := d_law_pair) (N := 4) (J := [0]) (ds := [P, nm p, .lst (L.map ln)]) (fun d ds' => d = ln (q.2, q.1) ∧ ds' = [P2]) (by
        have st : startE 4 [0] [P, nm p, .lst (L.map ln)] = [some (.io, P), some (.arg, nm p), some (.arg, .lst (L.map ln)), none] := by simp [startE]
        rw [st]
        unfold d_law_pair
        have fin : ∀ E, ioOut E [0] = some [P2] → CallQ (fun d ds' => d = ln (q.2, q.1) ∧ ds' = [P2]) [0] (.rt (.tup [.int q.2, .int q.1]) E) := fun E e => cq_rt e ⟨rfl, rfl⟩
        refine wp_seq (wp_if (c := true) (E' := [some (.io, P1), some (.arg, nm p), some (.arg, .lst (L.map ln)), none]) (by simp! [pe, e1]) ?_)
        rw [if_pos rfl]
        (refine wp_gen fun R hR => ?_; simp! [sizeLine_eq, e2, j0, pRevA]; subst hR)
        exact fin _ rfl)
      exact e
    · obtain ⟨q, P', hp', g, h⟩ := last hp1
      refine ⟨q, P', hp', g, ?_⟩
      obtain ⟨d, ds', e, rfl, rfl⟩ := wp_call (S := d_law_pair) (N := 4) (J := [0]) (ds := [P, nm p, .lst (L.map ln)]) (fun d ds' => d = ln q ∧ ds' = [P']) (by
        have st : startE 4 [0] [P, nm p, .lst (L.map ln)] = [some (.io, P), some (.arg, nm p), some (.arg, .lst (L.map ln)), none] := by simp [startE]
        rw [st]
        unfold d_law_pair
        (refine wp_seq (wp_gen fun R hR => ?_); simp! [sizeLine_eq, pe, e1, c0]; subst hR; first | rw [Aft_nx] | rw [Aft_rt] | skip)
        exact h none)
      exact e
end VL
set_option maxHeartbeats 4000000
namespace VL
open PySem PySem.Spec PyProof.Rows L2
theorem pairs_ok {P : D} {p : Nat} (hp : PotD P) (h1 : 1 ≤ p) (h2 : p ≤ 9) : ∃ (L : List (Nat × Nat)) (P' : D), PotD P' ∧ (∀ q ∈ L, Gp p q) ∧ L.length ≤ 30 ∧ f_law_pairs [P, nm p] = some (.lst (L.map ln), [P']) := by
  obtain ⟨d, ds', e, L, P', g1, g2, g3, rfl, rfl⟩ := wp_call (S := d_law_pairs) (N := 4) (J := [0]) (ds := [P, nm p]) (fun d ds' => ∃ (L : List (Nat × Nat)) (P' : D), PotD P' ∧ (∀ q ∈ L, Gp p q) ∧ L.length ≤ 30 ∧ d = .lst (L.map ln) ∧ ds' = [P']) (by
    have st : startE 4 [0] [P, nm p] = [some (.io, P), some (.arg, nm p), none, none] := by simp [startE]
    rw [st]
    unfold d_law_pairs
    (refine wp_seq (wp_gen fun R hR => ?_); simp! [sizeLine_eq]; subst hR; first | rw [Aft_nx] | rw [Aft_rt] | skip)
    obtain ⟨c, P1, hp1, hc, e1⟩ := take_ok hp (m := 31) (by omega) (by omega)
    obtain ⟨r, hr, hr1, hr2⟩ : ∃ r : Nat, (c : Int) * (if 1 < p then 1 else 0) = (r : Int) ∧ r ≤ 30 ∧ (0 < r → 2 ≤ p) := by
      by_cases z : 1 < p
      · exact ⟨c, by rw [if_pos z]; omega, by omega, fun _ => z⟩
      · exact ⟨0, by rw [if_neg z]; omega, by omega, fun h => by omega⟩
    have r1 := rg_nat r
    have r2 := rgOk_nat (n := r) (by omega)
    refine wp_seq (wp_for (ds := (List.range r).map nm) (E1 := [some (.io, P1), some (.arg, nm p), some (.own, .lst []), none]) (fun i E => ∃ (L : List (Nat × Nat)) (P' : D) (x3 : Option (Mode × D)), PotD P' ∧ (∀ q ∈ L, Gp p q) ∧ L.length = i ∧ E = [some (.io, P'), some (.arg, nm p), some (.own, .lst (L.map ln)), x3]) ?_ ?_ ?_ ?_)
    · have b1 : -18446744073709551616 < (c : Int) ∧ (c : Int) < 18446744073709551616 := by omega
      by_cases z : 1 < p
      · have z' : (1 : Int) < p := by omega
        rw [if_pos z] at hr
        have hr : c = r := by omega
        subst hr
        simp! [e1, z, z', b1, r1, r2]
      · have z' : ¬ (1 : Int) < p := by omega
        rw [if_neg z] at hr
        have hr : r = 0 := by omega
        subst hr
        simp! [e1, z, z', b1, r1, r2]
        exact ⟨by simpa using rgOk_nat (n := 0) (by omega), rfl⟩
    · exact ⟨[], P1, none, hp1, by simp, rfl, by simp [freeze, Kind.S]⟩
    · rintro i d E hd ⟨L, P', x3, g1, g2, rfl, rfl⟩
      obtain ⟨hi, rfl⟩ := rg_get hd
      obtain ⟨q, P2, hp2, gq, ep⟩ := pair_ok g1 (hr2 (by omega)) h2 g2 (by omega)
      refine ⟨[some (.io, P'), some (.arg, nm p), some (.own, .lst (L.map ln)), some (.own, nm L.length)], by simp! [putP], ?_⟩
      have g2' : ∀ q' ∈ L ++ [q], Gp p q' := fun q' h => by
        rcases List.mem_append.mp h with h | h
        · exact g2 q' h
        · rw [List.mem_singleton.mp h]; exact gq
      have fin : ∀ E, E = [some (.io, P2), some (.arg, nm p), some (.own, .lst ((L ++ [q]).map ln)), some (.own, nm L.length)] → LoopQ (fun i E => ∃ (L : List (Nat × Nat)) (P' : D) (x3 : Option (Mode × D)), PotD P' ∧ (∀ q ∈ L, Gp p q) ∧ L.length = i ∧ E = [some (.io, P'), some (.arg, nm p), some (.own, .lst (L.map ln)), x3]) L.length (Aft (sRet true (.sub 2) (eVar 2)) (CallQ (fun d ds' => ∃ (L : List (Nat × Nat)) (P' : D), PotD P' ∧ (∀ q ∈ L, Gp p q) ∧ L.length ≤ 30 ∧ d = .lst (L.map ln) ∧ ds' = [P']) [0])) (.nx E) := fun E e => lq_nx ⟨L ++ [q], P2, _, hp2, g2', by simp, e⟩
      have l1 : L.length < 16777216 := by omega
      have aL := atomL_ln L
      simp only [nm] at ep
      unfold d_law_pairs_1
      (refine wp_gen fun R hR => ?_; simp! [sizeLine_eq, ep, l1, aL, sizeLine_eq]; subst hR)
      exact fin _ (by simp)
    · rintro E ⟨L, P', x3, g1, g2, g3, rfl⟩
      rw [Aft_nx]
      rw [List.length_map, List.length_range] at g3
      have aL := atomL_ln L
      (refine wp_gen fun R hR => ?_; simp! [sizeLine_eq, aL]; subst hR)
      exact cq_rt (ds' := [P']) rfl ⟨L, P', g1, g2, by omega, rfl, rfl⟩)
  exact ⟨L, P', g1, g2, g3, e⟩
abbrev odL (a p : Nat) : List D := [.non, .int a, .str "ab", .lst [.int 0, .int 1], .tup [.int a], .tup [.int a, .int a], .tup [.int a, .int p], .tup [.int (-1), .int a], .tup [.int 0, .int 1, .int 2], .tup [], .bl true, .tup [.int a, .non], .tup [.int a, .str "1"], .dct [] [], .tup [.bl true, .int a], .tup [.tup [.int 0], .int 1], .tup [.int a, .lst [.int 1]]]
def Odd (p : Nat) (o : D) : Prop := ∃ a, a < p ∧ o ∈ odL a p
theorem odd_ok {P : D} {p : Nat} (hp : PotD P) (h1 : 1 ≤ p) (h2 : p ≤ 9) : ∃ o P', PotD P' ∧ Odd p o ∧ f_law_odd [P, nm p] = some (o, [P']) := by
  obtain ⟨a, P1, hp1, ha, e1⟩ := take_ok hp (m := (p : Int)) (by omega) (by omega)
  obtain ⟨w, P2, hp2, hw, e2⟩ := take_ok hp1 (m := 17) (by omega) (by omega)
  have hw' : w < (odL a p).length := by show w < 17; omega
  have j0 := atI_nat (odL a p) w
  rw [List.getElem?_eq_getElem hw'] at j0
  have hm := List.getElem_mem hw'
  generalize (odL a p)[w] = o at *
  simp only [nm] at e1 e2
  refine ⟨o, P2, hp2, ⟨a, by omega, hm⟩, ?_⟩
  simp [odL] at j0
  simp! [f_law_odd, d_law_odd, e1, e2, j0, sizeLine_eq]
abbrev noL (f : Nat) : List D := [.int 0, .int 10, .int (-1), .int (10 + f), .int (-1 - f), .non, .str "3", .tup [.int 3], .lst [.int 3], .bl true, .bl false, .dct [] []]
def NoP (x : D) : Prop := ∃ f : Nat, x ∈ noL f
theorem noplaces_ok {P : D} (hp : PotD P) : ∃ x P', PotD P' ∧ NoP x ∧ f_law_no_places [P] = some (x, [P']) := by
  obtain ⟨a, P1, hp1, ha, e1⟩ := take_ok hp (m := 1000000000) (by omega) (by omega)
  obtain ⟨w, P2, hp2, hw, e2⟩ := take_ok hp1 (m := 12) (by omega) (by omega)
  obtain ⟨f, hf⟩ : ∃ f : Nat, f = a * 100000000000000000000000000000000000000000000000000 := ⟨_, rfl⟩
  have hf' : (a : Int) * 100000000000000000000000000000000000000000000000000 = f := by omega
  have hw' : w < (noL f).length := by show w < 12; omega
  have j0 := atI_nat (noL f) w
  rw [List.getElem?_eq_getElem hw'] at j0
  have hm := List.getElem_mem hw'
  generalize (noL f)[w] = o at *
  simp only [nm] at e1 e2
  refine ⟨o, P2, hp2, ⟨f, hm⟩, ?_⟩
  simp [noL] at j0
  have b1 : -18446744073709551616 < (a : Int) ∧ (a : Int) < 18446744073709551616 := by omega
  simp! [f_law_no_places, d_law_no_places, e1, e2, j0, hf', b1, sizeLine_eq]
end VL
set_option maxHeartbeats 4000000
namespace VL
open PySem PySem.Spec PyProof.Rows L2
theorem size_no {x : D} (h : NoP x) : fx_refuse_size [x] = some (.exc 13 [] []) := by
  obtain ⟨f, h⟩ := h
  have l1 : (Str.ofString "places are a whole number from 1 to ").length ≤ 1000 := by decide +kernel
  simp only [noL, List.mem_cons, List.not_mem_nil, or_false] at h
  have b1 : ¬ ((10 : Int) + f ≤ 9) := by omega
  have b2 : ¬ ((1 : Int) ≤ -1 - f) := by omega
  rcases h with rfl | rfl | rfl | rfl | rfl | rfl | rfl | rfl | rfl | rfl | rfl | rfl
  all_goals simp! [fx_refuse_size, callX, dx_refuse_size, xSeq, xIf, xRz, xRz0, xL, eJoin, l1, b1, b2, f_is_whole, d_is_whole]
theorem size_yes {p : Nat} (h1 : 1 ≤ p) (h2 : p ≤ 9) : fx_refuse_size [nm p] = some (.ret .non) := by
  have b1 : (1 : Int) ≤ p := by omega
  have b2 : (p : Int) ≤ 9 := by omega
  simp! [fx_refuse_size, callX, dx_refuse_size, xSeq, xIf, xRz, xRz0, xL, eJoin, b1, b2, f_is_whole, d_is_whole]
theorem lay_no {x y : D} (h : NoP x) : fx_refuse_layout [x, y, .int 30] = some (.exc 13 [] []) := by
  have e := size_no h
  simp! [fx_refuse_layout, callX, dx_refuse_layout, xSeq, xDrop, xCall, e]
theorem lay_many {p : Nat} {y : D} {ds : List D} (h1 : 1 ≤ p) (h2 : p ≤ 9) (hy : y = .lst ds ∨ y = .tup ds) (hl : 30 < ds.length) : fx_refuse_layout [nm p, y, .int 30] = some (.exc 14 [] []) := by
  have e := size_yes h1 h2
  have hl' : (30 : Int) < ds.length := by omega
  have l1 : (Str.ofString "there are more than ").length ≤ 1000 := by decide +kernel
  have l2 : (Str.ofString " in the list").length ≤ 1000 := by decide +kernel
  simp only [nm] at e
  rcases hy with rfl | rfl
  all_goals simp! [fx_refuse_layout, callX, dx_refuse_layout, xSeq, xDrop, xCall, xIf, xRz, xL, eJoin, e, hl, hl', l1, l2]
theorem ints2 (x y : Int) : intsD [D.int x, D.int y] = some [x, y] := rfl
theorem ispair_yes {p : Nat} {q : Nat × Nat} (g : Gp p q) : f_is_pair [nm p, ln q] = some (.bl true, []) ∧ f_law_is_pair [nm p, ln q] = some (.bl true, []) := by
  obtain ⟨h1, h2, h3⟩ := g
  have a1 : (q.1 : Int) < p := by omega
  have a2 : (q.2 : Int) < p := by omega
  have a3 : ¬ (q.1 : Int) = q.2 := by omega
  have a4 : ¬ q.1 = q.2 := h3
  have m1 : (0 : Int) ≤ min (q.1 : Int) q.2 := by omega
  have m2 : max (q.1 : Int) q.2 < p := by omega
  constructor
  · simp! [f_is_pair, d_is_pair, f_is_place, d_is_place, f_is_whole, d_is_whole, a1, a2, a3, a4, h1, h2, pLt, pGe]
  · simp only [ln, nm]
    simp! [f_law_is_pair, d_law_is_pair, f_law_is_whole, d_law_is_whole, a3, a4, pLt, pGe, ints2, m1, m2]
theorem ispair_no {p : Nat} {o : D} (h2 : p ≤ 9) (h : Odd p o) : f_is_pair [nm p, o] = some (.bl false, []) ∧ f_law_is_pair [nm p, o] = some (.bl false, []) := by
  obtain ⟨a, ha, h⟩ := h
  simp only [odL, List.mem_cons, List.not_mem_nil, or_false] at h
  have a3 : ¬ a = p := by omega
  have a4 : ¬ (a : Int) = p := by omega
  have m1 : ¬ (0 : Int) ≤ min (-1) (a : Int) := by omega
  have m2 : ¬ max (a : Int) p < p := by omega
  have a5 : ¬ (-1 : Int) = a := by omega
  have m3 : (0 : Int) ≤ min (a : Int) p := by omega
  rcases h with rfl | rfl | rfl | rfl | rfl | rfl | rfl | rfl | rfl | rfl | rfl | rfl | rfl | rfl | rfl | rfl | rfl
  all_goals refine ⟨?_, ?_⟩
  all_goals simp! [f_is_pair, d_is_pair, f_law_is_pair, d_law_is_pair, f_is_place, d_is_place, f_is_whole, d_is_whole, f_law_is_whole, d_law_is_whole, pLt, pGe, Str.ofString, ha, a3, a4, a5, ints2, m1, m2, m3]
end VL
set_option maxHeartbeats 4000000
namespace VL
open PySem PySem.Spec PyProof.Rows L2
abbrev leE (p : Nat) (y : D) (x3 x4 : Option (Mode × D)) : Env := [some (.arg, nm p), some (.arg, y), some (.arg, .int 30), x3, x4]
theorem lay_put {p k : Nat} {y d : D} {x3 x4 : Option (Mode × D)} : gTupE 2 (gsCons (gSet (.pr false) 3) (gsCons (gSet (.pr false) 4) gsNil)) (.tup [nm k, d]) (leE p y x3 x4) = some (leE p y (some (.own, nm k)) (some (if d.atom then .own else .arg, d))) := by
  cases h : d.atom <;> simp! [putP, h]
theorem lay_one {p k : Nat} {y d : D} {m : Mode} {b : Bool} (hk : k < 1000) (e : f_is_pair [nm p, d] = some (.bl b, [])) : d_refuse_layout_501 (leE p y (some (.own, nm k)) (some (m, d))) = some (if b then .fin (.nx (leE p y (some (.own, nm k)) (some (m, d)))) else .exc 10 ["at"] [nm k] (leE p y (some (.own, nm k)) (some (m, d)))) := by
  have l1 : (Str.ofString "number ").length ≤ 1000 := by decide +kernel
  have l2 : (Str.ofString " of the list is no tuple of two unlike places").length ≤ 1000 := by decide +kernel
  have l3 : k < 10 ^ 40 := Nat.lt_trans hk (by decide +kernel)
  have e1 : fi_NoTie [nm k] = some (nm k) := by
    simp! [fi_NoTie, initD, eJoin, l1, l2, l3, storable]
  simp only [nm] at e e1
  cases b <;> simp! [d_refuse_layout_501, xIf, xRzI, xL, e, e1]
theorem lay_all {p : Nat} {y : D} : ∀ {qs : List (Nat × Nat)} {k : Nat} {x3 x4 : Option (Mode × D)}, (∀ q ∈ qs, Gp p q) → k + qs.length < 1000 → ∃ x3' x4', forX (gTupE 2 (gsCons (gSet (.pr false) 3) (gsCons (gSet (.pr false) 4) gsNil))) d_refuse_layout_501 (enumD k (qs.map ln)) (leE p y x3 x4) = some (.fin (.nx (leE p y x3' x4')))
  | [], k, x3, x4, _, _ => ⟨x3, x4, rfl⟩
  | q :: qs, k, x3, x4, h, hk => by
    have e1 := lay_one (k := k) (y := y) (m := if (ln q).atom then .own else .arg) (by simp at hk; omega) (ispair_yes (h q List.mem_cons_self)).1
    obtain ⟨x3', x4', e2⟩ := lay_all (p := p) (y := y) (qs := qs) (k := k + 1) (x3 := some (.own, nm k)) (x4 := some (if (ln q).atom then .own else .arg, ln q)) (fun q' h' => h q' (List.mem_cons_of_mem _ h')) (by simp at hk; omega)
    refine ⟨x3', x4', ?_⟩
    show forX _ _ (.tup [nm k, ln q] :: enumD (k + 1) (qs.map ln)) _ = _
    simp only [forX, lay_put, e1, if_true, e2]
theorem lay_bad {p : Nat} {y o : D} {r : List D} (h2 : p ≤ 9) (ho : Odd p o) : ∀ {qs : List (Nat × Nat)} {k : Nat} {x3 x4 : Option (Mode × D)}, (∀ q ∈ qs, Gp p q) → k + qs.length < 1000 → ∃ E', forX (gTupE 2 (gsCons (gSet (.pr false) 3) (gsCons (gSet (.pr false) 4) gsNil))) d_refuse_layout_501 (enumD k (qs.map ln ++ o :: r)) (leE p y x3 x4) = some (.exc 10 ["at"] [nm (k + qs.length)] E')
  | [], k, x3, x4, _, hk => by
    have e1 := lay_one (k := k) (y := y) (m := if o.atom then .own else .arg) (by simp at hk; omega) (ispair_no h2 ho).1
    refine ⟨leE p y (some (.own, nm k)) (some (if o.atom then .own else .arg, o)), ?_⟩
    show forX _ _ (.tup [nm k, o] :: enumD (k + 1) r) _ = _
    simp only [forX, lay_put, e1]
    rfl
  | q :: qs, k, x3, x4, h, hk => by
    have e1 := lay_one (k := k) (y := y) (m := if (ln q).atom then .own else .arg) (by simp at hk; omega) (ispair_yes (h q List.mem_cons_self)).1
    obtain ⟨E', e2⟩ := lay_bad (y := y) (r := r) h2 ho (qs := qs) (k := k + 1) (x3 := some (.own, nm k)) (x4 := some (if (ln q).atom then .own else .arg, ln q)) (fun q' h' => h q' (List.mem_cons_of_mem _ h')) (by simp at hk; omega)
    refine ⟨E', ?_⟩
    show forX _ _ (.tup [nm k, ln q] :: enumD (k + 1) (qs.map ln ++ o :: r)) _ = _
    simp only [forX, lay_put, e1, if_true, e2]
    simp only [List.length_cons]
    rw [show k + 1 + qs.length = k + (qs.length + 1) by omega]
theorem lay_tie {p : Nat} {y o : D} {qs : List (Nat × Nat)} {r : List D} (h1 : 1 ≤ p) (h2 : p ≤ 9) (hy : y = .lst (qs.map ln ++ o :: r) ∨ y = .tup (qs.map ln ++ o :: r)) (hq : ∀ q ∈ qs, Gp p q) (ho : Odd p o) (hl : (qs.map ln ++ o :: r).length ≤ 30) : fx_refuse_layout [nm p, y, .int 30] = some (.exc 10 ["at"] [nm qs.length]) := by
  have e := size_yes h1 h2
  have hl' : ¬ (30 : Int) < (qs.map ln ++ o :: r).length := by omega
  obtain ⟨E', e2⟩ := lay_bad (y := y) (r := r) (x3 := none) (x4 := none) h2 ho (qs := qs) (k := 0) hq (by simp at hl; omega)
  rw [Nat.zero_add] at e2
  generalize (qs.map ln ++ o :: r) = B at *
  simp only [nm] at e
  rcases hy with rfl | rfl
  · simp only [leE, nm] at e2
    simp! [fx_refuse_layout, callX, dx_refuse_layout, xSeq, xDrop, xCall, xIf, xFor, xL, e, hl', e2]
  · simp only [leE, nm] at e2
    simp! [fx_refuse_layout, callX, dx_refuse_layout, xSeq, xDrop, xCall, xIf, xFor, xL, e, hl', e2]
theorem lay_let {p : Nat} {y : D} {qs : List (Nat × Nat)} (h1 : 1 ≤ p) (h2 : p ≤ 9) (hy : y = .lst (qs.map ln) ∨ y = .tup (qs.map ln)) (hq : ∀ q ∈ qs, Gp p q) (hl : qs.length ≤ 30) : fx_refuse_layout [nm p, y, .int 30] = some (.ret .non) := by
  have e := size_yes h1 h2
  have hl' : ¬ (30 : Int) < (qs.map ln).length := by rw [List.length_map]; omega
  obtain ⟨x3, x4, e2⟩ := lay_all (y := y) (x3 := none) (x4 := none) (qs := qs) (k := 0) hq (by omega)
  generalize (qs.map ln) = B at *
  simp only [nm] at e
  rcases hy with rfl | rfl
  · simp only [leE, nm] at e2
    simp! [fx_refuse_layout, callX, dx_refuse_layout, xSeq, xDrop, xCall, xIf, xFor, xL, e, hl', e2]
  · simp only [leE, nm] at e2
    simp! [fx_refuse_layout, callX, dx_refuse_layout, xSeq, xDrop, xCall, xIf, xFor, xL, e, hl', e2]
end VL
set_option maxHeartbeats 4000000
namespace VL
open PySem PySem.Spec PyProof.Rows L2
theorem mm_nm (a b : Nat) : (pMin [nm a, nm b] = some (nm (min a b))) ∧ pMax [nm a, nm b] = some (nm (max a b)) := by
  constructor
  · simp only [nm, pMin]
    congr 2
    omega
  · simp only [nm, pMax]
    congr 2
    omega
theorem tgL_each {g : D → Env → Option Env} {t : TF} {f : EF} {E : Env} : ∀ {ds ys : List D}, ds.length = ys.length → (∀ (i : Nat) (d y : D), ds[i]? = some d → ys[i]? = some y → ∃ E1, g d E = some E1 ∧ ∃ E2, t E1 = some (true, E2) ∧ ∃ E3, f E1 = some (y, E3)) → tgL g t f ds E = some ys
  | [], [], _, _ => rfl
  | [], _ :: _, hl, _ => by simp at hl
  | _ :: _, [], hl, _ => by simp at hl
  | d :: ds, y :: ys, hl, st => by
    obtain ⟨E1, h1, E2, h2, E3, h3⟩ := st 0 d y rfl rfl
    have ih := tgL_each (g := g) (t := t) (f := f) (E := E) (ds := ds) (ys := ys) (by simpa using hl) fun i d y hd hy => st (i + 1) d y hd hy
    simp only [tgL, h1, h2, h3, ih]
theorem size_ok {n : Nat} (h1 : 1 ≤ n) (h2 : n ≤ 9) : f_refuse_size [nm n] = some (.non, []) := by
  have w1 : f_is_whole [nm n] = some (.bl true, []) := by simp! [f_is_whole, d_is_whole]
  have a : (1 : Int) ≤ (n : Int) := by omega
  have b : (n : Int) ≤ 9 := by omega
  simp [nm] at w1
  simp! [f_refuse_size, d_refuse_size, w1, a, b]
abbrev rlE (n : Nat) (qs : List (Nat × Nat)) (m : Nat) (x3 x4 : Option (Mode × D)) : Env := [some (.arg, nm n), some (.arg, .tup (qs.map ln)), some (.arg, nm m), x3, x4]
theorem layout_ok {n m : Nat} {qs : List (Nat × Nat)} (h1 : 1 ≤ n) (h2 : n ≤ 9) (hq : ∀ q ∈ qs, q.1 < n ∧ q.2 < n ∧ q.1 ≠ q.2) (hl : qs.length ≤ m) (hm : m ≤ 100) : f_refuse_layout [nm n, .tup (qs.map ln), nm m] = some (.non, []) := by
  have e1 := size_ok h1 h2
  have c : ¬ (m : Int) < (qs.length : Int) := by omega
  obtain ⟨d, ds', e, rfl, rfl⟩ := wp_call (S := d_refuse_layout) (N := 5) (J := []) (ds := [nm n, .tup (qs.map ln), nm m]) (fun d ds' => d = .non ∧ ds' = []) (by
    have st : startE 5 [] [nm n, .tup (qs.map ln), nm m] = rlE n qs m none none := by simp [startE]
    rw [st]
    unfold d_refuse_layout
    simp [nm] at e1
    (refine wp_seq (wp_gen fun R hR => ?_); simp! [sizeLine_eq, e1]; subst hR; first | rw [Aft_nx] | rw [Aft_rt] | skip)
    (refine wp_seq (wp_gen fun R hR => ?_); simp! [sizeLine_eq, c, hl]; subst hR; first | rw [Aft_nx] | rw [Aft_rt] | skip)
    refine wp_for (ds := enumD 0 (qs.map ln)) (E1 := rlE n qs m none none) (fun i E => ∃ x3 x4, E = rlE n qs m x3 x4) (by simp! [sl_eq]) ⟨none, none, by simp! [sl_eq]⟩ ?_ ?_
    · rintro i d E hd ⟨x3, x4, rfl⟩
      have hi : i < qs.length := by
        have := (List.getElem?_eq_some_iff.mp hd).1
        rw [enumD_len, List.length_map] at this
        exact this
      obtain ⟨q, hqi⟩ := get_ex hi
      have hd2 := enumD_get (i := 0) (j := i) (ds := qs.map ln) (d := ln q) (by rw [List.getElem?_map, hqi]; rfl)
      rw [hd] at hd2
      cases hd2
      obtain ⟨a, b, c⟩ := hq q (List.mem_of_getElem? hqi)
      have e2 := (ispair_yes (p := n) ⟨a, b, c⟩).1
      refine ⟨rlE n qs m (some (.own, nm i)) (some (.own, ln q)), by simp! [putP], ?_⟩
      unfold d_refuse_layout_1
      simp [nm] at e2
      (refine wp_gen fun R hR => ?_; simp! [sizeLine_eq, e2]; subst hR)
      exact lq_nx ⟨_, _, rfl⟩
    · rintro E ⟨x3, x4, rfl⟩
      exact cq_nx (ds' := []) rfl ⟨rfl, rfl⟩)
  exact e
abbrev mmQ (q : Nat × Nat) : Nat × Nat := (min q.1 q.2, max q.1 q.2)
abbrev webM (n : Nat) (qs : List (Nat × Nat)) : D := .tup [nm n, .tup ((qs.map mmQ).map ln)]
abbrev mwE (n : Nat) (qs : List (Nat × Nat)) (x2 x3 : Option (Mode × D)) : Env := [some (.arg, nm n), some (.arg, .tup (qs.map ln)), x2, x3]
theorem mw_tg {n : Nat} {qs : List (Nat × Nat)} (hl : qs.length ≤ 30) : eTupG1 (.sub 1) (iSeq (eVar 1)) (fun b => (gTupE 2 (gsCons (gSet (.pr b) 2) (gsCons (gSet (.pr b) 3) gsNil)))) tYesF d_made_web_2 [2, 3] (mwE n qs none none) = some (.tup ((qs.map mmQ).map ln), mwE n qs none none) := by
  rw [eTupG1_ap]
  have hv : iSeq (eVar 1) (mwE n qs none none) = some (qs.map ln, mwE n qs none none) := by simp! [sl_eq]
  rw [hv]
  have a := atomL_ln (qs.map mmQ)
  have sl0 : qs.length ≤ 16777216 := by omega
  dsimp only
  rw [tgL_each (ys := (qs.map mmQ).map ln) (by simp) fun i d y hd hy => ?_]
  · dsimp only
    rw [a, sl_eq, sizeLine_eq, List.length_map, List.length_map, decide_eq_true sl0]
    rfl
  · rw [List.getElem?_map] at hd
    obtain ⟨q, hqi, rfl⟩ := Option.map_eq_some_iff.mp hd
    rw [List.getElem?_map, List.getElem?_map, hqi] at hy
    cases hy
    obtain ⟨m1, m2⟩ := mm_nm q.1 q.2
    simp only [nm] at m1 m2
    refine ⟨[some (.arg, nm n), some (.arg, .tup (qs.map ln)), some (.own, nm q.1), some (.own, nm q.2)], by simp! [putP], [some (.arg, nm n), some (.arg, .tup (qs.map ln)), some (.own, nm q.1), some (.own, nm q.2)], rfl, [some (.arg, nm n), some (.arg, .tup (qs.map ln)), some (.own, nm q.1), some (.own, nm q.2)], ?_⟩
    simp! [d_made_web_2, -pMin, -pMax, m1, m2, ln, sizeLine_eq]
theorem madeweb_ok {n : Nat} {qs : List (Nat × Nat)} (h1 : 1 ≤ n) (h2 : n ≤ 9) (hq : ∀ q ∈ qs, q.1 < n ∧ q.2 < n ∧ q.1 ≠ q.2) (hl : qs.length ≤ 30) : f_made_web [nm n, .tup (qs.map ln)] = some (webM n qs, []) := by
  have e1 : f_refuse_layout [nm n, .tup (qs.map ln), nm 30] = some (.non, []) := layout_ok h1 h2 hq hl (by omega)
  have tg := mw_tg (n := n) hl
  obtain ⟨d, ds', e, rfl, rfl⟩ := wp_call (S := d_made_web) (N := 4) (J := []) (ds := [nm n, .tup (qs.map ln)]) (fun d ds' => d = webM n qs ∧ ds' = []) (by
    have st : startE 4 [] [nm n, .tup (qs.map ln)] = mwE n qs none none := by simp [startE]
    rw [st]
    unfold d_made_web
    simp [nm] at e1
    (refine wp_seq (wp_gen fun R hR => ?_); simp! [sizeLine_eq, e1]; subst hR; first | rw [Aft_nx] | rw [Aft_rt] | skip)
    simp [nm] at tg
    (refine wp_gen fun R hR => ?_; simp! [sizeLine_eq, tg, sizeLine_eq]; subst hR)
    exact cq_rt (ds' := []) rfl ⟨by simp [webM], rfl⟩)
  exact e
theorem fxmw_no {x y : D} (h : NoP x) : fx_made_web [x, y] = some (.exc 13 [] []) := by
  have e := lay_no (y := y) h
  simp! [fx_made_web, callX, dx_made_web, xSeq, xDrop, xCall, e]
theorem fxmw_many {p : Nat} {y : D} {ds : List D} (h1 : 1 ≤ p) (h2 : p ≤ 9) (hy : y = .lst ds ∨ y = .tup ds) (hl : 30 < ds.length) : fx_made_web [nm p, y] = some (.exc 14 [] []) := by
  have e := lay_many h1 h2 hy hl
  simp only [nm] at e
  simp! [fx_made_web, callX, dx_made_web, xSeq, xDrop, xCall, e]
theorem fxmw_tie {p : Nat} {y o : D} {qs : List (Nat × Nat)} {r : List D} (h1 : 1 ≤ p) (h2 : p ≤ 9) (hy : y = .lst (qs.map ln ++ o :: r) ∨ y = .tup (qs.map ln ++ o :: r)) (hq : ∀ q ∈ qs, Gp p q) (ho : Odd p o) (hl : (qs.map ln ++ o :: r).length ≤ 30) : fx_made_web [nm p, y] = some (.exc 10 ["at"] [nm qs.length]) := by
  have e := lay_tie h1 h2 hy hq ho hl
  simp only [nm] at e
  simp! [fx_made_web, callX, dx_made_web, xSeq, xDrop, xCall, e]
theorem fxmw_let {p : Nat} {qs : List (Nat × Nat)} (h1 : 1 ≤ p) (h2 : p ≤ 9) (hq : ∀ q ∈ qs, Gp p q) (hl : qs.length ≤ 30) : fx_made_web [nm p, .tup (qs.map ln)] = some (.ret (webM p qs)) := by
  have e := lay_let h1 h2 (.inr rfl) hq hl
  have tg : eTupG1 (.sub 1) (iSeq (eVar 1)) (fun b => (gTupE 2 (gsCons (gSet (.pr b) 2) (gsCons (gSet (.pr b) 3) gsNil)))) tYesF d_made_web_502 [2, 3] (mwE p qs none none) = some (.tup ((qs.map mmQ).map ln), mwE p qs none none) := mw_tg (n := p) hl
  simp only [nm] at e
  simp only [mwE, nm] at tg
  simp! [fx_made_web, callX, dx_made_web, xSeq, xDrop, xCall, xL, e, tg, sizeLine_eq, webM]
end VL
set_option maxHeartbeats 4000000
namespace VL
open PySem PySem.Spec PyProof.Rows L2
theorem fl3 (a b c : Bool) : flatsD [.bl a, .bl b, .bl c] = some [.bl a, .bl b, .bl c] := rfl
theorem other_no {c : Nat} (h : c = 10 ∨ c = 13 ∨ c = 14) (ns : List Str) (ds : List D) : f_law_is_other [.exn c ns ds] = some (.bl false, []) := by
  rcases h with rfl | rfl | rfl <;> simp! [f_law_is_other, d_law_is_other, eIsx]
theorem words_web : f_law_words [.exn 13 [] []] = some (.tup [.str "web"], []) := by
  have e := other_no (c := 13) (.inr (.inl rfl)) [] []
  have c1 : List.countP (fun z => eqV z (.bl true)) [.bl true, .bl false, .bl false] = 1 := by decide
  have c2 : List.findIdx? (fun z => eqV z (.bl true)) [.bl true, .bl false, .bl false] = some 0 := by decide
  simp! [f_law_words, d_law_words, eIsx, eCnt, e, sizeLine_eq, fl3, c1, c2, atI, ixN]
theorem words_many : f_law_words [.exn 14 [] []] = some (.tup [.str "many"], []) := by
  have e := other_no (c := 14) (.inr (.inr rfl)) [] []
  have c1 : List.countP (fun z => eqV z (.bl true)) [.bl false, .bl true, .bl false] = 1 := by decide
  have c2 : List.findIdx? (fun z => eqV z (.bl true)) [.bl false, .bl true, .bl false] = some 1 := by decide
  simp! [f_law_words, d_law_words, eIsx, eCnt, e, sizeLine_eq, fl3, c1, c2, atI, ixN]
theorem words_tie (k : Nat) : f_law_words [.exn 10 ["at"] [nm k]] = some (.tup [.str "tie", nm k], []) := by
  have e := other_no (c := 10) (.inl rfl) ["at"] [nm k]
  have c1 : List.countP (fun z => eqV z (.bl true)) [.bl false, .bl false, .bl true] = 1 := by decide
  simp only [nm] at e
  simp! [f_law_words, d_law_words, eIsx, eCnt, eXat, xlk, e, sizeLine_eq, fl3, c1, atI, ixN]
theorem told_let {x y d : D} (h : fx_made_web [x, y] = some (.ret d)) : f_law_told [x, y] = some (.tup [.str "let"], []) := by
  simp! [f_law_told, d_law_told, d_law_told_1, d_law_told_2, sTry, xDrop, xCall, h, sizeLine_eq]
theorem told_exc {x y w : D} {c : Nat} {ns : List Str} {ds : List D} (hc : c = 10 ∨ c = 13 ∨ c = 14) (h : fx_made_web [x, y] = some (.exc c ns ds)) (hw : f_law_words [.exn c ns ds] = some (w, [])) (cx : x.cool = true) (cy : y.cool = true) (cw : w.cool = true) : f_law_told [x, y] = some (w, []) := by
  rcases hc with rfl | rfl | rfl <;> simp! [f_law_told, d_law_told, d_law_told_1, d_law_told_2, sTry, xDrop, xCall, h, hw, sizeLine_eq, coolE, D.cool, D.coolL, cx, cy, cw]
end VL
set_option maxHeartbeats 4000000
namespace VL
open PySem PySem.Spec PyProof.Rows L2
structure RxD (d : D) (w n : Nat) : Prop where
  py : ∃ p, d.pyX = some p ∧ p.showable = true ∧ p.depth ≤ n ∧ p.shown.length ≤ w
structure RxL (ds : List D) (w n : Nat) : Prop where
  py : ∃ ps, D.pyXL ds = some ps ∧ PyData.showableAll ps = true ∧ PyData.depthAll ps ≤ n ∧ (PyData.shownAll ps).length = ds.length ∧ ((PyData.shownAll ps).map (·.length)).sum ≤ w
theorem RxD.up {d : D} {w w' n n' : Nat} (h : RxD d w n) (hw : w ≤ w') (hn : n ≤ n') : RxD d w' n' := by
  obtain ⟨p, e, s, a, b⟩ := h.py
  exact ⟨p, e, s, Nat.le_trans a hn, Nat.le_trans b hw⟩
theorem rx_non : RxD .non 4 0 := ⟨.none, by unfold D.pyX; rfl, rfl, Nat.le_refl _, by decide +kernel⟩
theorem rx_bl (b : Bool) : RxD (.bl b) 5 0 := ⟨.bool b, by unfold D.pyX; rfl, rfl, Nat.le_refl _, by cases b <;> decide +kernel⟩
theorem rx_int {i : Int} {k : Nat} (k0 : 0 < k) (hk : k ≤ 500) (h : i.natAbs < 10 ^ k) : RxD (.int i) (k + 1) 0 := ⟨.int i, by unfold D.pyX; rfl, by
  show decide (i.natAbs.log2 < 1920) = true
  refine decide_eq_true ?_
  by_cases z : i.natAbs = 0
  · rw [z]; decide
  · rw [Nat.log2_lt z]
    exact Nat.lt_of_lt_of_le h (Nat.le_trans (Nat.pow_le_pow_right (by decide) hk) (by decide +kernel)), Nat.le_refl _, by
  show (Str.ofString (toString i)).length ≤ k + 1
  rw [PySem.ofString_length]
  exact int_text_length_le10 k0 h⟩
theorem rx_str {s : Str} {w : Nat} (h : (reprText s).length ≤ w) : RxD (.str s) w 0 := ⟨.str s, by unfold D.pyX; rfl, rfl, Nat.le_refl _, h⟩
theorem rx_all {w n : Nat} : ∀ {ds : List D}, (∀ d ∈ ds, RxD d w n) → RxL ds (w * ds.length) n
  | [], _ => ⟨[], by unfold D.pyXL; rfl, rfl, Nat.zero_le _, rfl, Nat.zero_le _⟩
  | d :: ds, h => by
    obtain ⟨p, e1, s1, a1, b1⟩ := (h d List.mem_cons_self).py
    obtain ⟨ps, e2, s2, a2, c2, b2⟩ := (rx_all (ds := ds) fun z hz => h z (List.mem_cons_of_mem _ hz)).py
    refine ⟨p :: ps, by unfold D.pyXL; rw [e1, e2], ?_, ?_, ?_, ?_⟩
    · show (p.showable && PyData.showableAll ps) = true
      rw [s1, s2]; rfl
    · show max p.depth (PyData.depthAll ps) ≤ n
      omega
    · show (p.shown :: PyData.shownAll ps).length = _
      rw [List.length_cons, c2, List.length_cons]
    · show ((p.shown :: PyData.shownAll ps).map (·.length)).sum ≤ _
      rw [List.map_cons, List.sum_cons, List.length_cons, Nat.mul_succ]
      omega
theorem rx_lst {ds : List D} {w n : Nat} (h : RxL ds w n) : RxD (.lst ds) (w + 2 * ds.length + 3) (n + 1) := by
  obtain ⟨ps, e, s, a, c, b⟩ := h.py
  refine ⟨.list ps, by unfold D.pyX; rw [e]; rfl, s, ?_, ?_⟩
  · show PyData.depthAll ps + 1 ≤ n + 1
    omega
  · show (listText (PyData.shownAll ps)).length ≤ _
    have := listText_len_le (PyData.shownAll ps)
    omega
theorem rx_tup {ds : List D} {w n : Nat} (h : RxL ds w n) : RxD (.tup ds) (w + 2 * ds.length + 3) (n + 1) := by
  obtain ⟨ps, e, s, a, c, b⟩ := h.py
  refine ⟨.tuple ps, by unfold D.pyX; rw [e]; rfl, s, ?_, ?_⟩
  · show PyData.depthAll ps + 1 ≤ n + 1
    omega
  · show (tupleText (PyData.shownAll ps)).length ≤ _
    have := tupleText_len_le (PyData.shownAll ps)
    omega
theorem rx_dct0 : RxD (.dct [] []) 2 1 := ⟨.dict [], by unfold D.pyX pyKv; rfl, rfl, by decide +kernel, by decide +kernel⟩
theorem reprX_lst {ds : List D} {w n : Nat} (h : RxL ds w n) (hn : n ≤ 29) (hw : w + 2 * ds.length + 3 ≤ 16000000) : ∃ s, pReprX [.lst ds] = some (.str s) := by
  obtain ⟨ps, e, s, a, c, b⟩ := h.py
  refine ⟨(PyData.list ps).shown, ?_⟩
  have h1 : (PyData.list ps).showable = true := s
  have h2 : (PyData.list ps).depth ≤ 30 := by show PyData.depthAll ps + 1 ≤ 30; omega
  have h3 : (PyData.list ps).shown.length ≤ sizeLine := by
    show (listText (PyData.shownAll ps)).length ≤ _
    have := listText_len_le (PyData.shownAll ps)
    rw [sizeLine_eq]
    omega
  unfold pReprX
  dsimp only
  rw [e]
  dsimp only
  rw [if_pos (by rw [sl_eq, h1, decide_eq_true h2, decide_eq_true h3]; rfl)]
end VL
set_option maxHeartbeats 4000000
namespace VL
open PySem PySem.Spec PyProof.Rows L2
def Bd (p : Nat) (d : D) : Prop := (∃ q, Gp p q ∧ d = ln q) ∨ Odd p d
theorem rxi {i : Int} (h : i.natAbs < 100) : RxD (.int i) 5 0 := (rx_int (k := 2) (by decide) (by decide) (by simpa using h)).up (by omega) (Nat.le_refl _)
theorem rxt {ds : List D} (h : ∀ d ∈ ds, RxD d 20 2) (hl : ds.length ≤ 3) : RxD (.tup ds) 90 3 := (rx_tup (rx_all h)).up (by
  have : 20 * ds.length ≤ 60 := by omega
  omega) (Nat.le_refl _)
theorem rxl1 {i : Int} (h : i.natAbs < 100) : RxD (.lst [.int i]) 10 1 := (rx_lst (rx_all (ds := [.int i]) fun d hd => by rw [List.mem_singleton.mp hd]; exact rxi h)).up (by simp) (Nat.le_refl _)
theorem rxt1 {i : Int} (h : i.natAbs < 100) : RxD (.tup [.int i]) 10 1 := (rx_tup (rx_all (ds := [.int i]) fun d hd => by rw [List.mem_singleton.mp hd]; exact rxi h)).up (by simp) (Nat.le_refl _)
theorem rx_odd {p : Nat} {o : D} (h2 : p ≤ 9) (h : Odd p o) : RxD o 90 3 ∧ o.cool = true := by
  obtain ⟨a, ha, h⟩ := h
  simp only [odL, List.mem_cons, List.not_mem_nil, or_false] at h
  have ia : RxD (.int (a : Int)) 20 2 := (rxi (by omega)).up (by omega) (by omega)
  have ip : RxD (.int (p : Int)) 20 2 := (rxi (by omega)).up (by omega) (by omega)
  have i0 : RxD (.int 0) 20 2 := (rxi (by decide)).up (by omega) (by omega)
  have i1 : RxD (.int 1) 20 2 := (rxi (by decide)).up (by omega) (by omega)
  have i2 : RxD (.int 2) 20 2 := (rxi (by decide)).up (by omega) (by omega)
  have im : RxD (.int (-1)) 20 2 := (rxi (by decide)).up (by omega) (by omega)
  have in_ : RxD .non 20 2 := rx_non.up (by omega) (by omega)
  have ib : RxD (.bl true) 20 2 := (rx_bl true).up (by omega) (by omega)
  have is1 : RxD (.str "1") 20 2 := (rx_str (w := 20) (by decide +kernel)).up (by omega) (by omega)
  have il : RxD (.lst [.int 1]) 20 2 := (rxl1 (i := 1) (by decide)).up (by omega) (by omega)
  have it : RxD (.tup [.int 0]) 20 2 := (rxt1 (i := 0) (by decide)).up (by omega) (by omega)
  rcases h with rfl | rfl | rfl | rfl | rfl | rfl | rfl | rfl | rfl | rfl | rfl | rfl | rfl | rfl | rfl | rfl | rfl
  · exact ⟨in_.up (by omega) (by omega), by simp [D.cool]⟩
  · exact ⟨ia.up (by omega) (by omega), by simp [D.cool]⟩
  · exact ⟨(rx_str (w := 20) (by decide +kernel)).up (by omega) (by omega), by simp [D.cool]⟩
  · exact ⟨(rx_lst (rx_all (ds := [.int 0, .int 1]) (w := 20) (n := 2) (by simp [i0, i1]))).up (by simp) (by omega), by simp [D.cool, D.coolL]⟩
  · exact ⟨rxt (by simp [ia]) (by simp), by simp [D.cool, D.coolL]⟩
  · exact ⟨rxt (by simp [ia]) (by simp), by simp [D.cool, D.coolL]⟩
  · exact ⟨rxt (by simp [ia, ip]) (by simp), by simp [D.cool, D.coolL]⟩
  · exact ⟨rxt (by simp [ia, im]) (by simp), by simp [D.cool, D.coolL]⟩
  · exact ⟨rxt (by simp [i0, i1, i2]) (by simp), by simp [D.cool, D.coolL]⟩
  · exact ⟨rxt (by simp) (by simp), by simp [D.cool, D.coolL]⟩
  · exact ⟨ib.up (by omega) (by omega), by simp [D.cool]⟩
  · exact ⟨rxt (by simp [ia, in_]) (by simp), by simp [D.cool, D.coolL]⟩
  · exact ⟨rxt (by simp [ia, is1]) (by simp), by simp [D.cool, D.coolL]⟩
  · exact ⟨rx_dct0.up (by omega) (by omega), by simp [D.cool, D.coolL]⟩
  · exact ⟨rxt (by simp [ia, ib]) (by simp), by simp [D.cool, D.coolL]⟩
  · exact ⟨rxt (by simp [it, i1]) (by simp), by simp [D.cool, D.coolL]⟩
  · exact ⟨rxt (by simp [ia, il]) (by simp), by simp [D.cool, D.coolL]⟩
theorem rx_ln {p : Nat} {q : Nat × Nat} (h2 : p ≤ 9) (g : Gp p q) : RxD (ln q) 90 3 := rxt (fun d hd => by
  simp only [List.mem_cons, List.not_mem_nil, or_false] at hd
  obtain ⟨g1, g2, _⟩ := g
  rcases hd with rfl | rfl
  · exact (rxi (by omega)).up (by omega) (by omega)
  · exact (rxi (by omega)).up (by omega) (by omega)) (by simp)
theorem Bd.rx {p : Nat} {d : D} (h2 : p ≤ 9) (h : Bd p d) : RxD d 90 3 ∧ d.cool = true := by
  rcases h with ⟨q, g, rfl⟩ | h
  · exact ⟨rx_ln h2 g, by simp [D.cool, D.coolL]⟩
  · exact rx_odd h2 h
theorem Bd.split {p : Nat} : ∀ {B : List D}, (∀ d ∈ B, Bd p d) → (∃ o ∈ B, Odd p o) → ∃ (qs : List (Nat × Nat)) (o : D) (r : List D), B = qs.map ln ++ o :: r ∧ (∀ q ∈ qs, Gp p q) ∧ Odd p o
  | [], _, ⟨o, ho, _⟩ => by cases ho
  | d :: B, h, ⟨o, ho, hodd⟩ => by
    rcases h d List.mem_cons_self with ⟨q, g, rfl⟩ | hd
    · by_cases z : ∃ o ∈ B, Odd p o
      · obtain ⟨qs, o', r, e, h1, h2⟩ := Bd.split (fun d hd => h d (List.mem_cons_of_mem _ hd)) z
        exact ⟨q :: qs, o', r, by rw [e]; rfl, fun q' hq' => by
          rcases List.mem_cons.mp hq' with rfl | hq'
          · exact g
          · exact h1 q' hq', h2⟩
      · rcases List.mem_cons.mp ho with rfl | ho
        · exact ⟨[], ln q, B, rfl, by simp, hodd⟩
        · exact absurd ⟨o, ho, hodd⟩ z
    · exact ⟨[], d, B, rfl, by simp, hd⟩
theorem bad_rx {p : Nat} {B : List D} (h2 : p ≤ 9) (h : ∀ d ∈ B, Bd p d) (hl : B.length ≤ 30) : (∃ s, pReprX [.lst B] = some (.str s)) ∧ D.coolL B = true :=
  ⟨reprX_lst (rx_all fun d hd => ((h d hd).rx h2).1) (by omega) (by omega), coolL_mem fun d hd => ((h d hd).rx h2).2⟩
end VL
set_option maxHeartbeats 4000000
namespace VL
open PySem PySem.Spec PyProof.Rows L2
theorem odd_not {p : Nat} {q : Nat × Nat} (h2 : p ≤ 9) (g : Gp p q) (h : Odd p (ln q)) : False := by
  have a := (ispair_yes g).2
  have b := (ispair_no h2 h).2
  rw [a] at b
  cases b
theorem filt_first {n f : Nat} {o : Nat → Bool} (hf : f < n) (h1 : o f = true) (h0 : ∀ j, j < f → o j = false) : ∃ t, (List.range n).filter o = f :: t := by
  have e : List.range n = List.range f ++ [f] ++ (List.range (n - (f + 1))).map ((f + 1) + ·) := by
    rw [← List.range_succ, ← List.range_add]
    congr 1
    omega
  rw [e, List.filter_append, List.filter_append]
  have e0 : (List.range f).filter o = [] := by
    rw [List.filter_eq_nil_iff]
    intro j hj
    rw [h0 j (List.mem_range.mp hj)]
    simp
  rw [e0, List.filter_cons_of_pos h1]
  exact ⟨_, rfl⟩
abbrev lwE (ns : List Int) (x1 x2 x3 x4 x5 x6 x7 x8 x9 x10 x11 x12 x13 x14 x15 x16 : Option (Mode × D)) : Env := [some (.arg, .scr ns), x1, x2, x3, x4, x5, x6, x7, x8, x9, x10, x11, x12, x13, x14, x15, x16]
open Classical in
theorem first_lc {ns : List Int} {p : Nat} {B : List D} {qs : List (Nat × Nat)} {o : D} {r : List D} (h2 : p ≤ 9) (hB : ∀ d ∈ B, Bd p d) (hl : B.length ≤ 30) (e : B = qs.map ln ++ o :: r) (hq : ∀ q ∈ qs, Gp p q) (ho : Odd p o) {x1 x2 x4 x6 x7 x8 x9 x10 x11 x12 x13 : Option (Mode × D)} :
    ∃ t, eLc (.sub 5) (iEnm (eVar 5)) (fun b => (gTupE 2 (gsCons (gSet (.pr b) 14) (gsCons (gSet (.pr b) 15) gsNil)))) d_law_3 d_law_2 [14, 15] [] (lwE ns x1 x2 (some (.own, nm p)) x4 (some (.own, .lst B)) x6 x7 x8 x9 x10 x11 x12 x13 none none none) = some (lsD (qs.length :: t), lwE ns x1 x2 (some (.own, nm p)) x4 (some (.own, .lst B)) x6 x7 x8 x9 x10 x11 x12 x13 none none none) := by
  let oo : Nat → Bool := fun j => decide (∃ d, B[j]? = some d ∧ Odd p d)
  have hf : qs.length < B.length := by rw [e]; simp
  obtain ⟨t, ht⟩ := filt_first (o := oo) hf (by
    refine decide_eq_true ⟨o, ?_, ho⟩
    rw [e, List.getElem?_append_right (by simp)]
    simp) (fun j hj => by
    refine decide_eq_false ?_
    rintro ⟨d, hd, hodd⟩
    rw [e, List.getElem?_append_left (by simpa using hj), List.getElem?_map] at hd
    obtain ⟨q, hqj, rfl⟩ := Option.map_eq_some_iff.mp hd
    exact odd_not h2 (hq q (List.mem_of_getElem? hqj)) hodd)
  refine ⟨t, ?_⟩
  let E0 : Env := lwE ns x1 x2 (some (.own, nm p)) x4 (some (.own, .lst B)) x6 x7 x8 x9 x10 x11 x12 x13 none none none
  have := eLc_acc (k := .sub 5) (src := iEnm (eVar 5)) (g := fun b => (gTupE 2 (gsCons (gSet (.pr b) 14) (gsCons (gSet (.pr b) 15) gsNil)))) (t := d_law_3) (f := d_law_2) (vs := [14, 15]) (E := E0) (E1 := E0) (ds := enumD 0 B) (fun i => ((List.range i).filter oo).map nm) rfl (by simp! [E0]) (by rw [enumD_len]; omega) (by
    intro i d hd
    have hi : i < B.length := by
      have := (List.getElem?_eq_some_iff.mp hd).1
      rwa [enumD_len] at this
    obtain ⟨d', hd'⟩ := get_ex hi
    have hd2 := enumD_get (i := 0) (j := i) (ds := B) (d := d') hd'
    rw [hd] at hd2
    cases hd2
    rw [Nat.zero_add]
    have fs : ((List.range (i + 1)).filter oo).map nm = ((List.range i).filter oo).map nm ++ (if oo i then [nm i] else []) := by
      rw [List.range_succ, List.filter_append, List.map_append]
      congr 1
      by_cases z : oo i = true
      · rw [if_pos z, List.filter_cons_of_pos z]; rfl
      · rw [if_neg z, List.filter_cons_of_neg z]; rfl
    have ip : f_law_is_pair [nm p, d'] = some (.bl (!oo i), []) := by
      by_cases z : Odd p d'
      · rw [show oo i = true from decide_eq_true ⟨d', hd', z⟩]
        exact (ispair_no h2 z).2
      · rw [show oo i = false from decide_eq_false (by
          rintro ⟨d, h1, h3⟩
          rw [hd'] at h1
          cases h1
          exact z h3)]
        rcases hB d' (List.mem_of_getElem? hd') with ⟨q, g, rfl⟩ | h
        · exact (ispair_yes g).2
        · exact absurd h z
    let E2 : Env := lwE ns x1 x2 (some (.own, nm p)) x4 (some (.shr, .lst B)) x6 x7 x8 x9 x10 x11 x12 x13 (some (.own, nm i)) (some (if d'.atom then .own else .shr, d')) none
    simp only [nm] at ip
    refine ⟨E2, oo i, E2, ?_, ?_, fun z => ⟨?_, by simp! [E0, E2, Mode.frz]⟩, fun z => ⟨nm i, E2, by simp! [E2, d_law_2], ?_, by simp! [E0, E2, Mode.frz]⟩⟩
    · cases h : d'.atom <;> simp! [E0, E2, putP, Mode.frz, h]
    · simp! [E2, d_law_3, ip]
    · show ((List.range (i + 1)).filter oo).map nm = _
      rw [fs, if_neg (by simpa using z), List.append_nil]
    · show ((List.range (i + 1)).filter oo).map nm = _
      rw [fs, if_pos z])
  rw [enumD_len] at this
  show eLc _ _ _ _ _ _ _ E0 = _
  rw [this]
  simp only [ht]
  rfl
end VL
set_option maxHeartbeats 4000000
namespace VL
open PySem PySem.Spec PyProof.Rows L2
theorem cut_lo (ds : List D) (k : Nat) : cutD ds none (some (k : Int)) = ds.take k := by
  unfold cutD
  rw [HT.sIx_none, HT.sIx_nat, List.drop_zero, Nat.sub_zero]
  by_cases h : k ≤ ds.length
  · rw [Nat.min_eq_left h]
  · rw [Nat.min_eq_right (by omega), List.take_of_length_le (Nat.le_refl _), List.take_of_length_le (by omega)]
theorem rep_len {α : Type} (B : List α) : ∀ k : Nat, (List.replicate k B).flatten.length = k * B.length
  | 0 => by simp
  | k + 1 => by rw [List.replicate_succ, List.flatten_cons, List.length_append, rep_len B k, Nat.succ_mul, Nat.add_comm]
theorem rep_mem {α : Type} {B : List α} {k : Nat} {x : α} (h : x ∈ (List.replicate k B).flatten) : x ∈ B := by
  obtain ⟨L, hL, hx⟩ := List.mem_flatten.mp h
  rw [(List.mem_replicate.mp hL).2] at hx
  exact hx
theorem rep_map {α β : Type} (f : α → β) (B : List α) : ∀ k : Nat, (List.replicate k (B.map f)).flatten = (List.replicate k B).flatten.map f
  | 0 => rfl
  | k + 1 => by rw [List.replicate_succ, List.flatten_cons, rep_map f B k, List.replicate_succ, List.flatten_cons, List.map_append]
theorem mulN_ok {B : List D} {k : Nat} (hl : B.length ≤ 1000) (hk : k ≤ 1000) : pMulN [.lst B, .int (k : Int)] = some (.lst (List.replicate k B).flatten) := by
  have : B.length * k ≤ 1000 * 1000 := Nat.mul_le_mul hl hk
  unfold pMulN
  dsimp only
  rw [if_pos (by rw [sl_eq]; exact decide_eq_true ⟨by omega, by omega, by rw [Int.toNat_natCast, sizeLine_eq]; omega⟩), Int.toNat_natCast]
theorem mulE_ok {ps : List (Nat × Nat)} {k : Nat} (hl : ps.length ≤ 1000) (h2 : 2 ≤ k) (hk : k ≤ 1000) : pMulE [.tup (ps.map ln), .int (k : Int)] = some (.tup ((List.replicate k ps).flatten.map ln)) := by
  unfold pMulE
  dsimp only
  rw [if_pos (by rw [sl_eq]; exact decide_eq_true ⟨atomL_ln ps, by omega, by omega, by rw [List.length_map]; exact hl⟩), Int.toNat_natCast, rep_map]
theorem due_lc {ns : List Int} {ps : List (Nat × Nat)} (hl : ps.length ≤ 100) {m : Mode} {x1 x2 x3 x4 x5 x7 x8 x9 x10 x11 x12 x13 x14 x15 : Option (Mode × D)} (hm : m = .own ∨ m = .shr) :
    eLc (.sub 6) (iSeq (eVar 6)) (fun b => (gSet (.pr b) 16)) tYesF d_law_4 [16] [] (lwE ns x1 x2 x3 x4 x5 (some (m, .tup (ps.map ln))) x7 x8 x9 x10 x11 x12 x13 x14 x15 none) = some (.lst ((ps.map mmQ).map ln), lwE ns x1 x2 x3 x4 x5 (some (m, .tup (ps.map ln))) x7 x8 x9 x10 x11 x12 x13 x14 x15 none) := by
  let E0 : Env := lwE ns x1 x2 x3 x4 x5 (some (m, .tup (ps.map ln))) x7 x8 x9 x10 x11 x12 x13 x14 x15 none
  let E1 : Env := lwE ns x1 x2 x3 x4 x5 (some (.shr, .tup (ps.map ln))) x7 x8 x9 x10 x11 x12 x13 x14 x15 none
  have := eLc_acc (k := .sub 6) (src := iSeq (eVar 6)) (g := fun b => (gSet (.pr b) 16)) (t := tYesF) (f := d_law_4) (vs := [16]) (E := E0) (E1 := E0) (ds := ps.map ln) (fun i => ((ps.take i).map mmQ).map ln) rfl (by simp! [E0]) (by simp; omega) (by
    intro i d hd
    obtain ⟨q, hq, rfl⟩ := map_get hd
    let E2 : Env := lwE ns x1 x2 x3 x4 x5 (some (.shr, .tup (ps.map ln))) x7 x8 x9 x10 x11 x12 x13 x14 x15 (some (.own, ln q))
    have mn : pMin [ln q] = some (.int (min (q.1 : Int) q.2)) := rfl
    have mx : pMax [ln q] = some (.int (max (q.1 : Int) q.2)) := rfl
    refine ⟨E2, true, E2, ?_, rfl, fun z => (by cases z), fun _ => ⟨ln (mmQ q), E2, ?_, ?_, ?_⟩⟩
    · rcases hm with rfl | rfl <;> simp! [E0, E2, putP, Mode.frz]
    · have c1 : min (q.1 : Int) q.2 = ((min q.1 q.2 : Nat) : Int) := by omega
      have c2 : max (q.1 : Int) q.2 = ((max q.1 q.2 : Nat) : Int) := by omega
      simp! [E2, d_law_4, -pMin, -pMax, mn, mx, c1, c2, sizeLine_eq]
    · show ((ps.take (i + 1)).map mmQ).map ln = _
      rw [List.take_succ, hq]
      simp
    · rcases hm with rfl | rfl <;> simp! [E0, E2, Mode.frz])
  rw [List.length_map, List.take_length] at this
  exact this
end VL
set_option maxHeartbeats 8000000
namespace VL
open PySem PySem.Spec PyProof.Rows L2
theorem no_cool {x : D} (h : NoP x) : x.cool = true := by
  obtain ⟨f, h⟩ := h
  simp only [noL, List.mem_cons, List.not_mem_nil, or_false] at h
  rcases h with rfl | rfl | rfl | rfl | rfl | rfl | rfl | rfl | rfl | rfl | rfl | rfl
  all_goals simp [D.cool, D.coolL]
theorem ln_cool (qs : List (Nat × Nat)) : D.coolL (qs.map ln) = true := coolL_map fun q _ => by simp [D.cool, D.coolL]
abbrev tieD (f : Nat) : D := .tup [.str "tie", nm f]
structure Tl (p : Nat) (x : D) (ps : List (Nat × Nat)) (B X : List D) (f : Nat) : Prop where
  t1 : f_law_told [x, .lst X] = some (.tup [.str "web"], [])
  t2 : f_law_told [x, .tup (ps.map ln)] = some (.tup [.str "web"], [])
  t3 : f_law_told [nm p, .lst X] = some (.tup [.str "many"], [])
  t4 : f_law_told [nm p, .lst B] = some (tieD f, [])
  t5 : f_law_told [nm p, .tup B] = some (tieD f, [])
  t6 : f_law_told [nm p, .tup (((List.replicate 30 ps).flatten.take 30).map ln)] = some (.tup [.str "let"], [])
  t7 : f_made_web [nm p, .tup (ps.map ln)] = some (webM p ps, [])
theorem tl_ok {p t : Nat} {x : D} {ps : List (Nat × Nat)} {B : List D} {qs : List (Nat × Nat)} {o : D} {r : List D} (h1 : 1 ≤ p) (h2 : p ≤ 9) (hx : NoP x) (hps : ∀ q ∈ ps, Gp p q) (hpl : ps.length ≤ 30) (hB : ∀ d ∈ B, Bd p d) (hl : B.length ≤ 30) (e : B = qs.map ln ++ o :: r) (hq : ∀ q ∈ qs, Gp p q) (ho : Odd p o) (ht : t ≤ 9) : Tl p x ps B ((List.replicate 40 B).flatten.take (31 + t)) qs.length := by
  have cx := no_cool hx
  have cB := (bad_rx h2 hB hl).2
  have cX : D.coolL ((List.replicate 40 B).flatten.take (31 + t)) = true := coolL_mem fun d hd => ((hB d (rep_mem (List.mem_of_mem_take hd))).rx h2).2
  have lX : 30 < ((List.replicate 40 B).flatten.take (31 + t)).length := by
    have : 1 ≤ B.length := by rw [e]; simp; omega
    rw [List.length_take, rep_len]
    omega
  have cp : (nm p).cool = true := rfl
  have cw : ∀ s : Str, (D.tup [.str s]).cool = true := fun s => by simp [D.cool, D.coolL]
  have ct : (tieD qs.length).cool = true := by simp [D.cool, D.coolL]
  generalize hX : (List.replicate 40 B).flatten.take (31 + t) = X at *
  refine ⟨?_, ?_, ?_, ?_, ?_, ?_, ?_⟩
  · exact told_exc (.inr (.inl rfl)) (fxmw_no hx) words_web cx (by unfold D.cool; exact cX) (cw _)
  · exact told_exc (.inr (.inl rfl)) (fxmw_no hx) words_web cx (by unfold D.cool; exact ln_cool ps) (cw _)
  · exact told_exc (.inr (.inr rfl)) (fxmw_many h1 h2 (.inl rfl) lX) words_many cp (by unfold D.cool; exact cX) (cw _)
  · exact told_exc (.inl rfl) (fxmw_tie h1 h2 (.inl (by rw [e])) hq ho (by rw [← e]; exact hl)) (words_tie _) cp (by unfold D.cool; exact cB) ct
  · exact told_exc (.inl rfl) (fxmw_tie h1 h2 (.inr (by rw [e])) hq ho (by rw [← e]; exact hl)) (words_tie _) cp (by unfold D.cool; exact cB) ct
  · exact told_let (fxmw_let h1 h2 (fun q hq => hps q (rep_mem (List.mem_of_mem_take hq))) (by rw [List.length_take]; omega))
  · exact madeweb_ok h1 h2 hps hpl
theorem ins_ok {ns : List Int} {p : Nat} {P : D} {B : List D} {x1 x4 x6 x7 x8 x9 x10 x11 x12 x13 x14 x15 x16 : Option (Mode × D)} (hp : PotD P) (h1 : 1 ≤ p) (h2 : p ≤ 9) (hB : ∀ d ∈ B, Bd p d) (hl : B.length ≤ 100) {Q : Out → Prop}
    (q : ∀ P' B', PotD P' → (∀ d ∈ B', Bd p d) → B'.length = B.length + 1 → (∃ o ∈ B', Odd p o) → Q (.nx (lwE ns x1 (some (.own, P')) (some (.own, nm p)) x4 (some (.own, .lst B')) x6 x7 none x9 x10 x11 x12 x13 x14 x15 x16))) :
    Wp d_law_1 (lwE ns x1 (some (.own, P)) (some (.own, nm p)) x4 (some (.own, .lst B)) x6 x7 x8 x9 x10 x11 x12 x13 x14 x15 x16) Q := by
  obtain ⟨o, P1, hp1, ho, e1⟩ := odd_ok hp h1 h2
  obtain ⟨c, P2, hp2, hc, e2⟩ := take_ok hp1 (m := (B.length : Int) + 1) (by omega) (by omega)
  have hc' : c ≤ B.length := by omega
  have q' := q P2 (B.take c ++ [o] ++ B.drop c) hp2 (fun d hd => by
    rcases List.mem_append.mp hd with hd | hd
    · rcases List.mem_append.mp hd with hd | hd
      · exact hB d (List.mem_of_mem_take hd)
      · rw [List.mem_singleton.mp hd]; exact .inr ho
    · exact hB d (List.mem_of_mem_drop hd)) (by simp; omega) ⟨o, by simp, ho⟩
  have b1 : B.length < 16777216 := by omega
  have b2 : (0 : Int) ≤ c ∧ (c : Int) < 9223372036854775808 := by omega
  unfold d_law_1
  simp only [nm] at e1 e2
  (refine wp_seq (wp_gen fun R hR => ?_); simp! [sizeLine_eq, e1]; subst hR; first | rw [Aft_nx] | rw [Aft_rt] | skip)
  (refine wp_gen fun R hR => ?_; simp! [sizeLine_eq, sMvIns, e2, b1, b2, sizeLine_eq]; subst hR)
  simpa using q'
end VL
set_option maxHeartbeats 8000000
namespace VL
open PySem PySem.Spec PyProof.Rows L2
theorem sh_let : D.sh true 2 (.tup [.str "let"]) = true := sh_tup.mpr fun d hd => by
  rw [List.mem_singleton.mp hd]
  exact sh_str (by decide +kernel)
theorem sh_web (p : Nat) (ps : List (Nat × Nat)) : D.sh true 5 (webM p ps) = true := sh_tup.mpr fun d hd => by
  simp only [List.mem_cons, List.not_mem_nil, or_false] at hd
  rcases hd with rfl | rfl
  · exact sh_int _
  · refine sh_tup.mpr fun d hd => ?_
    obtain ⟨q, _, rfl⟩ := List.mem_map.mp hd
    refine sh_tup.mpr fun d hd => ?_
    simp only [List.mem_cons, List.not_mem_nil, or_false] at hd
    rcases hd with rfl | rfl <;> exact sh_int _
theorem rx_tie {k : Nat} (h : k < 100) : RxD (.tup [.str "tie", .int k]) 90 3 := rxt (fun d hd => by
  simp only [List.mem_cons, List.not_mem_nil, or_false] at hd
  rcases hd with rfl | rfl
  · exact (rx_str (w := 20) (by decide +kernel)).up (by omega) (by omega)
  · exact (rxi (by omega)).up (by omega) (by omega)) (by simp)
theorem rx_wd {s : Str} (h : (reprText s).length ≤ 20) : RxD (.tup [.str s]) 90 3 := rxt (fun d hd => by
  rw [List.mem_singleton.mp hd]
  exact (rx_str (w := 20) h).up (by omega) (by omega)) (by simp)
theorem told_rx {k : Nat} (h : k < 100) : ∃ s, pReprX [.lst [.tup [.str "web"], .tup [.str "web"], .tup [.str "many"], .tup [.str "tie", .int k]]] = some (.str s) := reprX_lst (rx_all (w := 90) (n := 3) fun d hd => by
  simp only [List.mem_cons, List.not_mem_nil, or_false] at hd
  rcases hd with rfl | rfl | rfl | rfl
  · exact rx_wd (by decide +kernel)
  · exact rx_wd (by decide +kernel)
  · exact rx_wd (by decide +kernel)
  · exact rx_tie h) (by omega) (by simp)
theorem tie_rx {k : Nat} (h : k < 100) : ∃ s, pReprX [.tup [.str "tie", .int k]] = some (.str s) := by
  have r1 : RpD (.str "tie") 40 1 := (rp_str (w := 40) (by decide +kernel) (by decide +kernel) (by decide +kernel) (by decide +kernel)).up (Nat.le_refl _) (by omega)
  have r2 : RpD (.int k) 40 1 := (rp_int (k := 12) (by decide) (by decide) (by omega)).up (by omega) (by omega)
  obtain ⟨t, e, _⟩ := (rp_tup (rp_cons r1 (rp_cons r2 (rp_nil.up (Nat.le_refl _) (show 0 ≤ 1 by omega))))).tup (by omega) (by omega)
  exact ⟨t, e⟩
theorem nth_ok (ns : List Int) (k : Nat) : ∃ c, f_law_nth [.scr ns, nm k] = some (.int c, []) := by
  by_cases h : k < ns.length
  · refine ⟨ns[k], ?_⟩
    have e : atI ns (k : Int) = some ns[k] := by rw [atI_nat, List.getElem?_eq_getElem h]
    have h' : (k : Int) < ns.length := by omega
    simp! [f_law_nth, d_law_nth, pLt, h, h', e]
  · refine ⟨0, ?_⟩
    have h' : ¬ (k : Int) < ns.length := by omega
    simp! [f_law_nth, d_law_nth, pLt, h, h']
theorem pot_ok (ns : List Int) {k : Nat} (hk : k ≤ 100) : ∃ p, PotD p ∧ f_law_pot [.scr ns, nm k] = some (p, []) := by
  obtain ⟨c, e⟩ := nth_ok ns k
  simp only [nm] at e
  have h1 : (101 : Int) * k < 18446744073709551616 := by omega
  have h : ∃ a b, f_law_pot [.scr ns, nm k] = some (.lst [.int a, .int b], []) := by
    simp! [f_law_pot, d_law_pot, e, sizeLine_eq]
  obtain ⟨a, b, h⟩ := h
  exact ⟨_, ⟨a, b, rfl⟩, h⟩
theorem body_ok {ns : List Int} {j : Nat} (hj : j < 8) {x2 x3 x4 x5 x6 x7 x8 x9 x10 x11 x12 x13 : Option (Mode × D)} {Q : Out → Prop} (q : ∀ x1 x2 x3 x4 x5 x6 x7 x8 x9 x10 x11 x12 x13, Q (.nx (lwE ns x1 x2 x3 x4 x5 x6 x7 x8 x9 x10 x11 x12 x13 none none none))) :
    Wp d_law_5 (lwE ns (some (.own, nm j)) x2 x3 x4 x5 x6 x7 x8 x9 x10 x11 x12 x13 none none none) Q := by
  obtain ⟨P0, hp0, e0⟩ := pot_ok ns (k := j) (by omega)
  obtain ⟨a, P1, hp1, ha, e1⟩ := take_ok hp0 (m := 9) (by omega) (by omega)
  obtain ⟨p, hp, h1, h2⟩ : ∃ p : Nat, 1 + a = p ∧ 1 ≤ p ∧ p ≤ 9 := ⟨_, rfl, by omega, by omega⟩
  have hpi : (1 : Int) + a = p := by omega
  obtain ⟨x, P2, hp2, hx, e2⟩ := noplaces_ok hp1
  obtain ⟨L, P3, hp3, hL, hLl, e3⟩ := pairs_ok hp2 h1 h2
  obtain ⟨ps, hps0⟩ : ∃ ps, ps = L.take 27 := ⟨_, rfl⟩
  have hps : ∀ q ∈ ps, Gp p q := fun q hq => by rw [hps0] at hq; exact hL q (List.mem_of_mem_take hq)
  have hpl : ps.length ≤ 27 := by rw [hps0, List.length_take]; omega
  have cc : cutD (L.map ln) none (some 27) = ps.map ln := by
    have := cut_lo (L.map ln) 27
    rw [hps0, List.map_take]
    exact this
  have aP := atomL_ln ps
  obtain ⟨t, P4, hp4, ht, e4⟩ := take_ok hp3 (m := 3) (by omega) (by omega)
  have r1 := rg_nat (1 + t)
  have r2 := rgOk_nat (n := 1 + t) (by omega)
  have rc : ((1 + t : Nat) : Int) = 1 + (t : Int) := by omega
  rw [rc] at r1 r2
  unfold d_law_5
  simp only [nm] at e1 e3 e4
  (refine wp_seq (wp_gen fun R hR => ?_); simp! [sizeLine_eq, e0]; subst hR; first | rw [Aft_nx] | rw [Aft_rt] | skip)
  (refine wp_seq (wp_gen fun R hR => ?_); simp! [sizeLine_eq, e1, hpi]; subst hR; first | rw [Aft_nx] | rw [Aft_rt] | skip)
  (refine wp_seq (wp_gen fun R hR => ?_); simp! [sizeLine_eq, e2]; subst hR; first | rw [Aft_nx] | rw [Aft_rt] | skip)
  have sx : storable .own x = true := by simp [storable]
  (refine wp_seq (wp_gen fun R hR => ?_); simp! [sizeLine_eq, e3, eSliceA_ap, pSliceA_lst, cc, aP, sizeLine_eq]; subst hR; first | rw [Aft_nx] | rw [Aft_rt] | skip)
  (refine wp_seq (wp_gen fun R hR => ?_); simp! [sizeLine_eq, aP]; subst hR; first | rw [Aft_nx] | rw [Aft_rt] | skip)
  refine wp_seq (wp_for (ds := (List.range (1 + t)).map nm) (E1 := lwE ns (some (.own, nm j)) (some (.own, P4)) (some (.own, nm p)) (some (.own, x)) (some (.own, .lst (ps.map ln))) (some (.own, .tup (ps.map ln))) x7 x8 x9 x10 x11 x12 x13 none none none) (fun i E => ∃ P B x7 x8, PotD P ∧ (∀ d ∈ B, Bd p d) ∧ B.length ≤ 27 + i ∧ (0 < i → ∃ o ∈ B, Odd p o) ∧ E = lwE ns (some (.own, nm j)) (some (.own, P)) (some (.own, nm p)) (some (.own, x)) (some (.own, .lst B)) (some (.own, .tup (ps.map ln))) x7 x8 x9 x10 x11 x12 x13 none none none) ?_ ?_ ?_ ?_)
  · simp! [e4, r1, r2]
  · exact ⟨P4, ps.map ln, x7, x8, hp4, fun d hd => by
      obtain ⟨q, hq, rfl⟩ := List.mem_map.mp hd
      exact .inl ⟨q, hps q hq, rfl⟩, by rw [List.length_map]; omega, fun z => absurd z (by omega), by simp [freeze, Kind.S]⟩
  · rintro i d E hd ⟨P, B, x7, x8, g1, g2, g3, g4, rfl⟩
    obtain ⟨hi, rfl⟩ := rg_get hd
    refine ⟨lwE ns (some (.own, nm j)) (some (.own, P)) (some (.own, nm p)) (some (.own, x)) (some (.own, .lst B)) (some (.own, .tup (ps.map ln))) (some (.own, nm i)) x8 x9 x10 x11 x12 x13 none none none, by simp! [putP], ?_⟩
    exact ins_ok g1 h1 h2 g2 (by omega) fun P' B' k1 k2 k3 k4 => lq_nx ⟨P', B', _, _, k1, k2, by omega, fun _ => k4, rfl⟩
  · rintro E ⟨P, B, x7, x8, g1, g2, g3, g4, rfl⟩
    rw [Aft_nx]
    rw [List.length_map, List.length_range] at g3 g4
    have hl : B.length ≤ 30 := by omega
    obtain ⟨qs, o, r, eB, hq, ho⟩ := Bd.split g2 (g4 (by omega))
    obtain ⟨⟨s, er⟩, cB⟩ := bad_rx h2 g2 hl
    obtain ⟨t2, fl⟩ := first_lc (ns := ns) (x1 := some (.own, nm j)) (x2 := some (.own, P)) (x4 := some (.own, x)) (x6 := some (.own, .tup (ps.map ln))) (x7 := x7) (x8 := x8) (x9 := some (.own, .str s)) (x10 := x10) (x11 := x11) (x12 := x12) (x13 := x13) h2 g2 hl eB hq ho
    obtain ⟨c, P5, hp5, hc, e5⟩ := take_ok g1 (m := 10) (by omega) (by omega)
    have tl := tl_ok (t := c) h1 h2 hx hps (by omega) g2 hl eB hq ho (by omega)
    have mu : pMulN [.lst B, .int 40] = some (.lst (List.replicate 40 B).flatten) := mulN_ok (k := 40) (by omega) (by omega)
    have cu : cutD (List.replicate 40 B).flatten none (some (31 + (c : Int))) = (List.replicate 40 B).flatten.take (31 + c) := by
      have := cut_lo (List.replicate 40 B).flatten (31 + c)
      rw [show ((31 + c : Nat) : Int) = 31 + (c : Int) by omega] at this
      exact this
    generalize (List.replicate 40 B).flatten = R at mu cu tl
    generalize R.take (31 + c) = X at cu tl
    have j0 : atI ((qs.length :: t2).map nm) 0 = some (nm qs.length) := by simp [atI, ixN]
    generalize (qs.length :: t2) = L2 at *
    simp only [nm] at e5 j0
    (refine wp_seq (wp_gen fun R hR => ?_); simp! [sizeLine_eq, er]; subst hR; first | rw [Aft_nx] | rw [Aft_rt] | skip)
    (refine wp_seq (wp_gen fun R hR => ?_); simp! [sizeLine_eq, fl, j0]; subst hR; first | rw [Aft_nx] | rw [Aft_rt] | skip)
    obtain ⟨u1, u2, u3, u4, u5, u6, u7⟩ := tl
    simp only [nm] at u3 u4 u5 u6 u7
    have lq : qs.length < 100 := by rw [eB] at hl; simp at hl; omega
    obtain ⟨sr, rr⟩ := told_rx lq
    obtain ⟨st, rt⟩ := tie_rx lq
    have mu6 : pMulE [.tup (ps.map ln), .int 30] = some (.tup ((List.replicate 30 ps).flatten.map ln)) := mulE_ok (ps := ps) (k := 30) (by omega) (by omega) (by omega)
    have cu6 : cutD ((List.replicate 30 ps).flatten.map ln) none (some 30) = ((List.replicate 30 ps).flatten.take 30).map ln := by
      have := cut_lo ((List.replicate 30 ps).flatten.map ln) 30
      rw [← List.map_take] at this
      exact this
    generalize (List.replicate 30 ps).flatten.map ln = W at mu6 cu6
    generalize ((List.replicate 30 ps).flatten.take 30).map ln = W2 at cu6 u6
    have pl : pEq true [.tup [.str "let"], .tup [.str "let"]] = some (.bl false) := pEq_same (neg := true) sh_let (by omega)
    have pm : pEq true [webM p ps, webM p ps] = some (.bl false) := pEq_same (neg := true) (sh_web p ps) (by omega)
    obtain ⟨Y, hY⟩ : ∃ Y, Y = (ps.map mmQ).map ln := ⟨_, rfl⟩
    have aY := atomL_ln (ps.map mmQ)
    simp only [webM, nm] at u7 pm
    rw [← hY] at aY u7 pm
    (refine wp_seq (wp_gen fun R hR => ?_); simp! [sizeLine_eq, mu, eSliceA_ap, pSliceA_lst, e5, cu]; subst hR; first | rw [Aft_nx] | rw [Aft_rt] | skip)
    by_cases ax : D.atomL X = true
    · rw [if_pos ax]
      (refine wp_seq (wp_gen fun R hR => ?_); simp! [sizeLine_eq, u1, u2, u3, u4, sizeLine_eq]; subst hR; first | rw [Aft_nx] | rw [Aft_rt] | skip)
      (refine wp_seq (wp_gen fun R hR => ?_); simp! [sizeLine_eq, rr, er, pEq_str]; subst hR; first | rw [Aft_nx] | rw [Aft_rt] | skip)
      (refine wp_seq (wp_gen fun R hR => ?_); simp! [sizeLine_eq, u5, rt, pEq_str]; subst hR; first | rw [Aft_nx] | rw [Aft_rt] | skip)
      have due := due_lc (ns := ns) (ps := ps) (m := .own) (x1 := some (.own, nm j)) (x2 := some (.own, P5)) (x3 := some (.own, nm p)) (x4 := some (.own, x)) (x5 := some (.own, .lst B)) (x7 := x7) (x8 := x8) (x9 := some (.own, .str s)) (x10 := some (.own, nm qs.length)) (x11 := some (.own, .lst X)) (x12 := some (.own, .lst [.tup [.str "web"], .tup [.str "web"], .tup [.str "many"], .tup [.str "tie", .int qs.length]])) (x13 := x13) (x14 := none) (x15 := none) (by omega) (.inl rfl)
      simp only [nm] at due
      rw [← hY] at due
      (refine wp_seq (wp_gen fun R hR => ?_); simp! [sizeLine_eq, due, sizeLine_eq, aY]; subst hR; first | rw [Aft_nx] | rw [Aft_rt] | skip)
      (refine wp_gen fun R hR => ?_; simp! [sizeLine_eq, mu6, eSliceA_ap, pSliceA_tup, cu6, u6, pl, u7, pm]; subst hR)
      exact q _ _ _ _ _ _ _ _ _ _ _ _ _
    · rw [if_neg ax]
      (refine wp_seq (wp_gen fun R hR => ?_); simp! [sizeLine_eq, u1, u2, u3, u4, sizeLine_eq]; subst hR; first | rw [Aft_nx] | rw [Aft_rt] | skip)
      (refine wp_seq (wp_gen fun R hR => ?_); simp! [sizeLine_eq, rr, er, pEq_str]; subst hR; first | rw [Aft_nx] | rw [Aft_rt] | skip)
      (refine wp_seq (wp_gen fun R hR => ?_); simp! [sizeLine_eq, u5, rt, pEq_str]; subst hR; first | rw [Aft_nx] | rw [Aft_rt] | skip)
      have due := due_lc (ns := ns) (ps := ps) (m := .own) (x1 := some (.own, nm j)) (x2 := some (.own, P5)) (x3 := some (.own, nm p)) (x4 := some (.own, x)) (x5 := some (.shr, .lst B)) (x7 := x7) (x8 := x8) (x9 := some (.own, .str s)) (x10 := some (.own, nm qs.length)) (x11 := some (.shr, .lst X)) (x12 := some (.own, .lst [.tup [.str "web"], .tup [.str "web"], .tup [.str "many"], .tup [.str "tie", .int qs.length]])) (x13 := x13) (x14 := none) (x15 := none) (by omega) (.inl rfl)
      simp only [nm] at due
      rw [← hY] at due
      (refine wp_seq (wp_gen fun R hR => ?_); simp! [sizeLine_eq, due, sizeLine_eq, aY]; subst hR; first | rw [Aft_nx] | rw [Aft_rt] | skip)
      (refine wp_gen fun R hR => ?_; simp! [sizeLine_eq, mu6, eSliceA_ap, pSliceA_tup, cu6, u6, pl, u7, pm]; subst hR)
      exact q _ _ _ _ _ _ _ _ _ _ _ _ _
theorem law_true (ns : List Int) (hlen : ns.length ≤ 63) : f_law [.scr ns] = some (.bl true, []) := by
  obtain ⟨d, ds', e, rfl, rfl⟩ := wp_call (S := d_law) (N := 17) (J := []) (ds := [.scr ns]) (fun d ds' => d = .bl true ∧ ds' = []) (by
    have st : startE 17 [] [.scr ns] = lwE ns none none none none none none none none none none none none none none none none := by simp [startE]
    rw [st]
    unfold d_law
    obtain ⟨r, hr, hr2⟩ : ∃ r : Nat, r = max 1 (min 8 ns.length) ∧ r ≤ 8 := ⟨_, rfl, by omega⟩
    refine wp_seq (wp_for (ds := (List.range r).map nm) (E1 := lwE ns none none none none none none none none none none none none none none none none) (fun i E => ∃ x1 x2 x3 x4 x5 x6 x7 x8 x9 x10 x11 x12 x13, E = lwE ns x1 x2 x3 x4 x5 x6 x7 x8 x9 x10 x11 x12 x13 none none none) ?_ ?_ ?_ ?_)
    · have r1 := rg_nat r
      have r2 := rgOk_nat (n := r) (by omega)
      have f4 : (if (ns.length : Int) < (8 : Int) then (ns.length : Int) else (8 : Int)) = ((min 8 ns.length : Nat) : Int) := by split <;> omega
      have f5 : (if (1 : Int) < ((min 8 ns.length : Nat) : Int) then ((min 8 ns.length : Nat) : Int) else 1) = (r : Int) := by split <;> omega
      simp only [iRg_ap, rg1_ap, ePrim_ap, lCons_ap, lNil_ap, eC_ap, eVar_ap, List.getElem?_cons_zero, pLen, pMin, pMax, f4, gt_iff_lt, f5, r1, r2, if_true]
    · exact ⟨_, _, _, _, _, _, _, _, _, _, _, _, _, rfl⟩
    · rintro i d E hd ⟨x1, x2, x3, x4, x5, x6, x7, x8, x9, x10, x11, x12, x13, rfl⟩
      obtain ⟨hi, rfl⟩ := rg_get hd
      exact ⟨lwE ns (some (.own, nm i)) x2 x3 x4 x5 x6 x7 x8 x9 x10 x11 x12 x13 none none none, by simp! [putP], body_ok (by omega) fun x1 x2 x3 x4 x5 x6 x7 x8 x9 x10 x11 x12 x13 => lq_nx ⟨x1, x2, x3, x4, x5, x6, x7, x8, x9, x10, x11, x12, x13, rfl⟩⟩
    · rintro E ⟨x1, x2, x3, x4, x5, x6, x7, x8, x9, x10, x11, x12, x13, rfl⟩
      rw [Aft_nx]
      (refine wp_gen fun R hR => ?_; simp! [sizeLine_eq]; subst hR)
      exact cq_rt (ds' := []) rfl ⟨rfl, rfl⟩)
  exact e
end VL
set_option maxHeartbeats 8000000
namespace VL
open PySem PySem.Spec PyProof.Rows L2
open GxR (TabB TabG Tabbed)
theorem all_mk {l : PySem.W.OpenLaw} {w : World} {K : PySem.W.Frag} {h : Heap} {mg : Str → Option Value} {fa : Addr} (X : K.In h) (G : h.Ns mainGlobals mg) (hfa : mg "law" = some (.ref fa))
    {fis_whole : Addr} {odis_whole anis_whole : Option Addr} {slis_whole : Array (Option Value)} {ocis_whole kVis_whole dcis_whole pmis_whole ctis_whole : Value} {cdis_whole : Value}
    (ais_whole : PySem.W.nsIn K mainGlobals "is_whole" = some (some (.ref fis_whole))) (lis_whole : K.lookup fis_whole = some ⟨ocis_whole, odis_whole, .func (PySem.W.fnOf "is_whole" "is_whole" (defArgs s_is_whole) (defBody s_is_whole) (defScope s_is_whole) .none kVis_whole dcis_whole pmis_whole anis_whole cdis_whole ctis_whole), slis_whole⟩)
    (cis_whole : PySem.W.codeIn K cdis_whole "is_whole" = true) (kis_whole : PySem.W.keepIn K (.ref fis_whole) = true)
    {fis_place : Addr} {odis_place anis_place : Option Addr} {slis_place : Array (Option Value)} {ocis_place kVis_place dcis_place pmis_place ctis_place : Value} {cdis_place : Value}
    (ais_place : PySem.W.nsIn K mainGlobals "is_place" = some (some (.ref fis_place))) (lis_place : K.lookup fis_place = some ⟨ocis_place, odis_place, .func (PySem.W.fnOf "is_place" "is_place" (defArgs s_is_place) (defBody s_is_place) (defScope s_is_place) .none kVis_place dcis_place pmis_place anis_place cdis_place ctis_place), slis_place⟩)
    (cis_place : PySem.W.codeIn K cdis_place "is_place" = true) (kis_place : PySem.W.keepIn K (.ref fis_place) = true)
    {fis_pair : Addr} {odis_pair anis_pair : Option Addr} {slis_pair : Array (Option Value)} {ocis_pair kVis_pair dcis_pair pmis_pair ctis_pair : Value} {cdis_pair : Value}
    (ais_pair : PySem.W.nsIn K mainGlobals "is_pair" = some (some (.ref fis_pair))) (lis_pair : K.lookup fis_pair = some ⟨ocis_pair, odis_pair, .func (PySem.W.fnOf "is_pair" "is_pair" (defArgs s_is_pair) (defBody s_is_pair) (defScope s_is_pair) .none kVis_pair dcis_pair pmis_pair anis_pair cdis_pair ctis_pair), slis_pair⟩)
    (cis_pair : PySem.W.codeIn K cdis_pair "is_pair" = true) (kis_pair : PySem.W.keepIn K (.ref fis_pair) = true)
    {frefuse_size : Addr} {odrefuse_size anrefuse_size : Option Addr} {slrefuse_size : Array (Option Value)} {ocrefuse_size kVrefuse_size dcrefuse_size pmrefuse_size ctrefuse_size : Value} {cdrefuse_size : Value}
    (arefuse_size : PySem.W.nsIn K mainGlobals "refuse_size" = some (some (.ref frefuse_size))) (lrefuse_size : K.lookup frefuse_size = some ⟨ocrefuse_size, odrefuse_size, .func (PySem.W.fnOf "refuse_size" "refuse_size" (defArgs s_refuse_size) (defBody s_refuse_size) (defScope s_refuse_size) .none kVrefuse_size dcrefuse_size pmrefuse_size anrefuse_size cdrefuse_size ctrefuse_size), slrefuse_size⟩)
    (crefuse_size : PySem.W.codeIn K cdrefuse_size "refuse_size" = true) (krefuse_size : PySem.W.keepIn K (.ref frefuse_size) = true)
    {frefuse_layout : Addr} {odrefuse_layout anrefuse_layout : Option Addr} {slrefuse_layout : Array (Option Value)} {ocrefuse_layout kVrefuse_layout dcrefuse_layout pmrefuse_layout ctrefuse_layout : Value} {cdrefuse_layout : Value}
    (arefuse_layout : PySem.W.nsIn K mainGlobals "refuse_layout" = some (some (.ref frefuse_layout))) (lrefuse_layout : K.lookup frefuse_layout = some ⟨ocrefuse_layout, odrefuse_layout, .func (PySem.W.fnOf "refuse_layout" "refuse_layout" (defArgs s_refuse_layout) (defBody s_refuse_layout) (defScope s_refuse_layout) .none kVrefuse_layout dcrefuse_layout pmrefuse_layout anrefuse_layout cdrefuse_layout ctrefuse_layout), slrefuse_layout⟩)
    (crefuse_layout : PySem.W.codeIn K cdrefuse_layout "refuse_layout" = true) (krefuse_layout : PySem.W.keepIn K (.ref frefuse_layout) = true)
    {fmade_web : Addr} {odmade_web anmade_web : Option Addr} {slmade_web : Array (Option Value)} {ocmade_web kVmade_web dcmade_web pmmade_web ctmade_web : Value} {c_made_web T_made_web : Addr}
    (amade_web : PySem.W.nsIn K mainGlobals "made_web" = some (some (.ref fmade_web))) (lmade_web : K.lookup fmade_web = some ⟨ocmade_web, odmade_web, .func (PySem.W.fnOf "made_web" "made_web" (defArgs s_made_web) (defBody s_made_web) (defScope s_made_web) .none kVmade_web dcmade_web pmmade_web anmade_web (.ref c_made_web) ctmade_web), slmade_web⟩)
    (cmade_web : PySem.W.codeIn K (.ref c_made_web) "made_web" = true) (kmade_web : PySem.W.keepIn K (.ref fmade_web) = true)
    {emade_web : Value} {ddmade_web : Option Addr} {usmade_web : Array Value} {ssmade_web : Array (Option Value)} (tmade_web : K.lookup c_made_web = some ⟨emade_web, ddmade_web, .fields usmade_web, ssmade_web⟩) (imade_web : usmade_web[11]? = some (.ref T_made_web)) (nmade_web : K.lookup T_made_web = none) (Lmade_web : LamT.is T_made_web = false)
    {flaw_nth : Addr} {odlaw_nth anlaw_nth : Option Addr} {sllaw_nth : Array (Option Value)} {oclaw_nth kVlaw_nth dclaw_nth pmlaw_nth ctlaw_nth : Value} {cdlaw_nth : Value}
    (alaw_nth : PySem.W.nsIn K mainGlobals "_law_nth" = some (some (.ref flaw_nth))) (llaw_nth : K.lookup flaw_nth = some ⟨oclaw_nth, odlaw_nth, .func (PySem.W.fnOf "_law_nth" "_law_nth" (defArgs s_law_nth) (defBody s_law_nth) (defScope s_law_nth) .none kVlaw_nth dclaw_nth pmlaw_nth anlaw_nth cdlaw_nth ctlaw_nth), sllaw_nth⟩)
    (claw_nth : PySem.W.codeIn K cdlaw_nth "_law_nth" = true) (klaw_nth : PySem.W.keepIn K (.ref flaw_nth) = true)
    {flaw_pot : Addr} {odlaw_pot anlaw_pot : Option Addr} {sllaw_pot : Array (Option Value)} {oclaw_pot kVlaw_pot dclaw_pot pmlaw_pot ctlaw_pot : Value} {cdlaw_pot : Value}
    (alaw_pot : PySem.W.nsIn K mainGlobals "_law_pot" = some (some (.ref flaw_pot))) (llaw_pot : K.lookup flaw_pot = some ⟨oclaw_pot, odlaw_pot, .func (PySem.W.fnOf "_law_pot" "_law_pot" (defArgs s_law_pot) (defBody s_law_pot) (defScope s_law_pot) .none kVlaw_pot dclaw_pot pmlaw_pot anlaw_pot cdlaw_pot ctlaw_pot), sllaw_pot⟩)
    (claw_pot : PySem.W.codeIn K cdlaw_pot "_law_pot" = true) (klaw_pot : PySem.W.keepIn K (.ref flaw_pot) = true)
    {flaw_take : Addr} {odlaw_take anlaw_take : Option Addr} {sllaw_take : Array (Option Value)} {oclaw_take kVlaw_take dclaw_take pmlaw_take ctlaw_take : Value} {cdlaw_take : Value}
    (alaw_take : PySem.W.nsIn K mainGlobals "_law_take" = some (some (.ref flaw_take))) (llaw_take : K.lookup flaw_take = some ⟨oclaw_take, odlaw_take, .func (PySem.W.fnOf "_law_take" "_law_take" (defArgs s_law_take) (defBody s_law_take) (defScope s_law_take) .none kVlaw_take dclaw_take pmlaw_take anlaw_take cdlaw_take ctlaw_take), sllaw_take⟩)
    (claw_take : PySem.W.codeIn K cdlaw_take "_law_take" = true) (klaw_take : PySem.W.keepIn K (.ref flaw_take) = true)
    {flaw_pair : Addr} {odlaw_pair anlaw_pair : Option Addr} {sllaw_pair : Array (Option Value)} {oclaw_pair kVlaw_pair dclaw_pair pmlaw_pair ctlaw_pair : Value} {cdlaw_pair : Value}
    (alaw_pair : PySem.W.nsIn K mainGlobals "_law_pair" = some (some (.ref flaw_pair))) (llaw_pair : K.lookup flaw_pair = some ⟨oclaw_pair, odlaw_pair, .func (PySem.W.fnOf "_law_pair" "_law_pair" (defArgs s_law_pair) (defBody s_law_pair) (defScope s_law_pair) .none kVlaw_pair dclaw_pair pmlaw_pair anlaw_pair cdlaw_pair ctlaw_pair), sllaw_pair⟩)
    (claw_pair : PySem.W.codeIn K cdlaw_pair "_law_pair" = true) (klaw_pair : PySem.W.keepIn K (.ref flaw_pair) = true)
    {flaw_pairs : Addr} {odlaw_pairs anlaw_pairs : Option Addr} {sllaw_pairs : Array (Option Value)} {oclaw_pairs kVlaw_pairs dclaw_pairs pmlaw_pairs ctlaw_pairs : Value} {cdlaw_pairs : Value}
    (alaw_pairs : PySem.W.nsIn K mainGlobals "_law_pairs" = some (some (.ref flaw_pairs))) (llaw_pairs : K.lookup flaw_pairs = some ⟨oclaw_pairs, odlaw_pairs, .func (PySem.W.fnOf "_law_pairs" "_law_pairs" (defArgs s_law_pairs) (defBody s_law_pairs) (defScope s_law_pairs) .none kVlaw_pairs dclaw_pairs pmlaw_pairs anlaw_pairs cdlaw_pairs ctlaw_pairs), sllaw_pairs⟩)
    (claw_pairs : PySem.W.codeIn K cdlaw_pairs "_law_pairs" = true) (klaw_pairs : PySem.W.keepIn K (.ref flaw_pairs) = true)
    {flaw_is_whole : Addr} {odlaw_is_whole anlaw_is_whole : Option Addr} {sllaw_is_whole : Array (Option Value)} {oclaw_is_whole kVlaw_is_whole dclaw_is_whole pmlaw_is_whole ctlaw_is_whole : Value} {cdlaw_is_whole : Value}
    (alaw_is_whole : PySem.W.nsIn K mainGlobals "_law_is_whole" = some (some (.ref flaw_is_whole))) (llaw_is_whole : K.lookup flaw_is_whole = some ⟨oclaw_is_whole, odlaw_is_whole, .func (PySem.W.fnOf "_law_is_whole" "_law_is_whole" (defArgs s_law_is_whole) (defBody s_law_is_whole) (defScope s_law_is_whole) .none kVlaw_is_whole dclaw_is_whole pmlaw_is_whole anlaw_is_whole cdlaw_is_whole ctlaw_is_whole), sllaw_is_whole⟩)
    (claw_is_whole : PySem.W.codeIn K cdlaw_is_whole "_law_is_whole" = true) (klaw_is_whole : PySem.W.keepIn K (.ref flaw_is_whole) = true)
    {flaw_is_pair : Addr} {odlaw_is_pair anlaw_is_pair : Option Addr} {sllaw_is_pair : Array (Option Value)} {oclaw_is_pair kVlaw_is_pair dclaw_is_pair pmlaw_is_pair ctlaw_is_pair : Value} {cdlaw_is_pair : Value}
    (alaw_is_pair : PySem.W.nsIn K mainGlobals "_law_is_pair" = some (some (.ref flaw_is_pair))) (llaw_is_pair : K.lookup flaw_is_pair = some ⟨oclaw_is_pair, odlaw_is_pair, .func (PySem.W.fnOf "_law_is_pair" "_law_is_pair" (defArgs s_law_is_pair) (defBody s_law_is_pair) (defScope s_law_is_pair) .none kVlaw_is_pair dclaw_is_pair pmlaw_is_pair anlaw_is_pair cdlaw_is_pair ctlaw_is_pair), sllaw_is_pair⟩)
    (claw_is_pair : PySem.W.codeIn K cdlaw_is_pair "_law_is_pair" = true) (klaw_is_pair : PySem.W.keepIn K (.ref flaw_is_pair) = true)
    {flaw_odd : Addr} {odlaw_odd anlaw_odd : Option Addr} {sllaw_odd : Array (Option Value)} {oclaw_odd kVlaw_odd dclaw_odd pmlaw_odd ctlaw_odd : Value} {cdlaw_odd : Value}
    (alaw_odd : PySem.W.nsIn K mainGlobals "_law_odd" = some (some (.ref flaw_odd))) (llaw_odd : K.lookup flaw_odd = some ⟨oclaw_odd, odlaw_odd, .func (PySem.W.fnOf "_law_odd" "_law_odd" (defArgs s_law_odd) (defBody s_law_odd) (defScope s_law_odd) .none kVlaw_odd dclaw_odd pmlaw_odd anlaw_odd cdlaw_odd ctlaw_odd), sllaw_odd⟩)
    (claw_odd : PySem.W.codeIn K cdlaw_odd "_law_odd" = true) (klaw_odd : PySem.W.keepIn K (.ref flaw_odd) = true)
    {flaw_no_places : Addr} {odlaw_no_places anlaw_no_places : Option Addr} {sllaw_no_places : Array (Option Value)} {oclaw_no_places kVlaw_no_places dclaw_no_places pmlaw_no_places ctlaw_no_places : Value} {cdlaw_no_places : Value}
    (alaw_no_places : PySem.W.nsIn K mainGlobals "_law_no_places" = some (some (.ref flaw_no_places))) (llaw_no_places : K.lookup flaw_no_places = some ⟨oclaw_no_places, odlaw_no_places, .func (PySem.W.fnOf "_law_no_places" "_law_no_places" (defArgs s_law_no_places) (defBody s_law_no_places) (defScope s_law_no_places) .none kVlaw_no_places dclaw_no_places pmlaw_no_places anlaw_no_places cdlaw_no_places ctlaw_no_places), sllaw_no_places⟩)
    (claw_no_places : PySem.W.codeIn K cdlaw_no_places "_law_no_places" = true) (klaw_no_places : PySem.W.keepIn K (.ref flaw_no_places) = true)
    {flaw_is_other : Addr} {odlaw_is_other anlaw_is_other : Option Addr} {sllaw_is_other : Array (Option Value)} {oclaw_is_other kVlaw_is_other dclaw_is_other pmlaw_is_other ctlaw_is_other : Value} {cdlaw_is_other : Value}
    (alaw_is_other : PySem.W.nsIn K mainGlobals "_law_is_other" = some (some (.ref flaw_is_other))) (llaw_is_other : K.lookup flaw_is_other = some ⟨oclaw_is_other, odlaw_is_other, .func (PySem.W.fnOf "_law_is_other" "_law_is_other" (defArgs s_law_is_other) (defBody s_law_is_other) (defScope s_law_is_other) .none kVlaw_is_other dclaw_is_other pmlaw_is_other anlaw_is_other cdlaw_is_other ctlaw_is_other), sllaw_is_other⟩)
    (claw_is_other : PySem.W.codeIn K cdlaw_is_other "_law_is_other" = true) (klaw_is_other : PySem.W.keepIn K (.ref flaw_is_other) = true)
    {flaw_words : Addr} {odlaw_words anlaw_words : Option Addr} {sllaw_words : Array (Option Value)} {oclaw_words kVlaw_words dclaw_words pmlaw_words ctlaw_words : Value} {cdlaw_words : Value}
    (alaw_words : PySem.W.nsIn K mainGlobals "_law_words" = some (some (.ref flaw_words))) (llaw_words : K.lookup flaw_words = some ⟨oclaw_words, odlaw_words, .func (PySem.W.fnOf "_law_words" "_law_words" (defArgs s_law_words) (defBody s_law_words) (defScope s_law_words) .none kVlaw_words dclaw_words pmlaw_words anlaw_words cdlaw_words ctlaw_words), sllaw_words⟩)
    (claw_words : PySem.W.codeIn K cdlaw_words "_law_words" = true) (klaw_words : PySem.W.keepIn K (.ref flaw_words) = true)
    {flaw_told : Addr} {odlaw_told anlaw_told : Option Addr} {sllaw_told : Array (Option Value)} {oclaw_told kVlaw_told dclaw_told pmlaw_told ctlaw_told : Value} {cdlaw_told : Value}
    (alaw_told : PySem.W.nsIn K mainGlobals "_law_told" = some (some (.ref flaw_told))) (llaw_told : K.lookup flaw_told = some ⟨oclaw_told, odlaw_told, .func (PySem.W.fnOf "_law_told" "_law_told" (defArgs s_law_told) (defBody s_law_told) (defScope s_law_told) .none kVlaw_told dclaw_told pmlaw_told anlaw_told cdlaw_told ctlaw_told), sllaw_told⟩)
    (claw_told : PySem.W.codeIn K cdlaw_told "_law_told" = true) (klaw_told : PySem.W.keepIn K (.ref flaw_told) = true)
    {flaw : Addr} {odlaw anlaw : Option Addr} {sllaw : Array (Option Value)} {oclaw kVlaw dclaw pmlaw ctlaw : Value} {cdlaw : Value}
    (alaw : PySem.W.nsIn K mainGlobals "law" = some (some (.ref flaw))) (llaw : K.lookup flaw = some ⟨oclaw, odlaw, .func (PySem.W.fnOf "law" "law" (defArgs s_law) (defBody s_law) (defScope s_law) .none kVlaw dclaw pmlaw anlaw cdlaw ctlaw), sllaw⟩)
    (claw : PySem.W.codeIn K cdlaw "law" = true) (klaw : PySem.W.keepIn K (.ref flaw) = true)
    {e_Held e_NoCount e_NoDeed e_NoMost e_NoName e_NoPlace e_NoRow e_NoSpreads e_NoStrengths e_NoSuch e_NoTie e_NoTrees e_NoWeb e_NotHeld e_TooMany e_TreeError : Addr}
    (xa_Held : PySem.W.nsIn K mainGlobals "Held" = some (some (.ref e_Held)))
    (xa_NoCount : PySem.W.nsIn K mainGlobals "NoCount" = some (some (.ref e_NoCount)))
    (xa_NoDeed : PySem.W.nsIn K mainGlobals "NoDeed" = some (some (.ref e_NoDeed)))
    (xa_NoMost : PySem.W.nsIn K mainGlobals "NoMost" = some (some (.ref e_NoMost)))
    (xa_NoName : PySem.W.nsIn K mainGlobals "NoName" = some (some (.ref e_NoName)))
    (xa_NoPlace : PySem.W.nsIn K mainGlobals "NoPlace" = some (some (.ref e_NoPlace)))
    (xa_NoRow : PySem.W.nsIn K mainGlobals "NoRow" = some (some (.ref e_NoRow)))
    (xa_NoSpreads : PySem.W.nsIn K mainGlobals "NoSpreads" = some (some (.ref e_NoSpreads)))
    (xa_NoStrengths : PySem.W.nsIn K mainGlobals "NoStrengths" = some (some (.ref e_NoStrengths)))
    (xa_NoSuch : PySem.W.nsIn K mainGlobals "NoSuch" = some (some (.ref e_NoSuch)))
    (xa_NoTie : PySem.W.nsIn K mainGlobals "NoTie" = some (some (.ref e_NoTie)))
    (xa_NoTrees : PySem.W.nsIn K mainGlobals "NoTrees" = some (some (.ref e_NoTrees)))
    (xa_NoWeb : PySem.W.nsIn K mainGlobals "NoWeb" = some (some (.ref e_NoWeb)))
    (xa_NotHeld : PySem.W.nsIn K mainGlobals "NotHeld" = some (some (.ref e_NotHeld)))
    (xa_TooMany : PySem.W.nsIn K mainGlobals "TooMany" = some (some (.ref e_TooMany)))
    (xa_TreeError : PySem.W.nsIn K mainGlobals "TreeError" = some (some (.ref e_TreeError)))
    (xk_NoTie : PySem.W.keepIn K (.ref e_NoTie) = true)
    (xb_NoTie : PySem.W.subIn K (.ref e_NoTie) (.type "BaseException") = some true)
    (xt_NoTie : PySem.W.typeIn K (.ref e_NoTie) = some (.type "type"))
    (xna_NoTie_at : PySem.W.findIn K (.ref e_NoTie) "at" = some none)
    {fi_NoTie ci_NoTie cci_NoTie : Addr} {odi_NoTie ani_NoTie : Option Addr} {sli_NoTie : Array (Option Value)} {oci_NoTie dVi_NoTie kVi_NoTie dci_NoTie pmi_NoTie cti_NoTie : Value}
    (yi_NoTie : PySem.W.findIn K (.ref e_NoTie) "__init__" = some (some (.ref fi_NoTie)))
    (yl_NoTie : K.lookup fi_NoTie = some ⟨oci_NoTie, odi_NoTie, .func (PySem.W.ksFn "__init__" "NoTie.__init__" (defArgs s_i_NoTie) (defBody s_i_NoTie) (defScope s_i_NoTie) dVi_NoTie kVi_NoTie dci_NoTie pmi_NoTie ani_NoTie (.ref ci_NoTie) cti_NoTie cci_NoTie), sli_NoTie⟩)
    (yd_NoTie : dVi_NoTie = .none)
    (yc_NoTie : PySem.W.codeIn K (.ref ci_NoTie) "NoTie.__init__" = true)
    (yt_NoTie : PySem.W.typeIn K (.ref fi_NoTie) = some (.type "function"))
    {nmi_NoTie qi_NoTie : Str} {Ni_NoTie : Addr} {bsi_NoTie bmi_NoTie : List Value} {sni_NoTie subi_NoTie abi_NoTie coli_NoTie ddi_NoTie k0i_NoTie k1i_NoTie k2i_NoTie k3i_NoTie k5i_NoTie : _}
    (yo_NoTie : K.lookup e_NoTie = some (excClassObj nmi_NoTie qi_NoTie e_NoTie Ni_NoTie bsi_NoTie bmi_NoTie true sni_NoTie subi_NoTie abi_NoTie coli_NoTie ddi_NoTie k0i_NoTie k1i_NoTie k2i_NoTie k3i_NoTie k5i_NoTie "ValueError.__new__"))
    (yr_NoTie : PySem.HandSPX.refsVE bmi_NoTie = true)
    (ys_NoTie : PySem.W.findIn K (.ref e_NoTie) "__setattr__" = some (some (.builtin "object.__setattr__")))
    {cli_NoTie : Value} {cldi_NoTie : Option Addr} {csli_NoTie : Array (Option Value)} {cdDi_NoTie : _}
    (ye_NoTie : K.lookup cci_NoTie = some ⟨cli_NoTie, cldi_NoTie, .cell (some (.ref e_NoTie)), csli_NoTie⟩)
    (yk_NoTie : PySem.W.clsIn K e_NoTie = some cdDi_NoTie)
    (ym_NoTie : PySem.W.mroIn K e_NoTie (.ref e_NoTie) = some true)
    (yp_NoTie : PySem.W.ks_superIn K e_NoTie e_NoTie "__init__" = some (some (.builtin "ValueError.__init__")))
    (yv_NoTie : PySem.W.subIn K (.ref e_NoTie) (.type "ValueError") = some true)
    (yq_NoTie : PySem.W.nsIn K cStatics "thirdparty.any" = some none)
    {ei_NoTie : Value} {edi_NoTie : Option Addr} {usi_NoTie : Array Value} {esi_NoTie : Array (Option Value)} {fli_NoTie : Str} {fti_NoTie : Tok}
    (yx_NoTie : K.lookup ci_NoTie = some ⟨ei_NoTie, edi_NoTie, .fields usi_NoTie, esi_NoTie⟩)
    (yy_NoTie : usi_NoTie[2]? = some (.str fli_NoTie fti_NoTie))
    (yz_NoTie : ((l.prog.main.file : Str) == fli_NoTie) = true)
    (yw_NoTie : (l.prog.main.scope.names.lookup ("super" : Str)).isSome = false)
    (xg_NoTie : PySem.W.findIn K (.ref e_NoTie) "__getattribute__" = some (some (.builtin "BaseException.__getattribute__")))
    (xf_NoTie : PySem.W.findIn K (.ref e_NoTie) "__getattr__" = some none)
    (xd_NoTie : PySem.W.hasDictIn K e_NoTie = true)
    (xc_NoTie : PySem.W.findIn K (.ref e_NoTie) "__class__" = some (some (.builtin "object.__class__")))
    (xm_NoTie : PySem.W.mroIn K e_NoTie (.type "object") = some true)
    (xe_NoTie_TreeError : PySem.W.exmOne K (.ref e_NoTie) (.ref e_TreeError) = some true)
    (xi_NoTie_Held : PySem.W.kitOne K (.ref e_NoTie) (.ref e_Held) = some false)
    (xi_NoTie_NoCount : PySem.W.kitOne K (.ref e_NoTie) (.ref e_NoCount) = some false)
    (xi_NoTie_NoDeed : PySem.W.kitOne K (.ref e_NoTie) (.ref e_NoDeed) = some false)
    (xi_NoTie_NoMost : PySem.W.kitOne K (.ref e_NoTie) (.ref e_NoMost) = some false)
    (xi_NoTie_NoName : PySem.W.kitOne K (.ref e_NoTie) (.ref e_NoName) = some false)
    (xi_NoTie_NoPlace : PySem.W.kitOne K (.ref e_NoTie) (.ref e_NoPlace) = some false)
    (xi_NoTie_NoRow : PySem.W.kitOne K (.ref e_NoTie) (.ref e_NoRow) = some false)
    (xi_NoTie_NoSpreads : PySem.W.kitOne K (.ref e_NoTie) (.ref e_NoSpreads) = some false)
    (xi_NoTie_NoStrengths : PySem.W.kitOne K (.ref e_NoTie) (.ref e_NoStrengths) = some false)
    (xi_NoTie_NoSuch : PySem.W.kitOne K (.ref e_NoTie) (.ref e_NoSuch) = some false)
    (xi_NoTie_NoTie : PySem.W.kitOne K (.ref e_NoTie) (.ref e_NoTie) = some true)
    (xi_NoTie_NoTrees : PySem.W.kitOne K (.ref e_NoTie) (.ref e_NoTrees) = some false)
    (xi_NoTie_NoWeb : PySem.W.kitOne K (.ref e_NoTie) (.ref e_NoWeb) = some false)
    (xi_NoTie_NotHeld : PySem.W.kitOne K (.ref e_NoTie) (.ref e_NotHeld) = some false)
    (xi_NoTie_TooMany : PySem.W.kitOne K (.ref e_NoTie) (.ref e_TooMany) = some false)
    (xv_NoTie : PySem.W.kitOne K (.ref e_NoTie) (.type "ValueError") = some true)
    (xk_NoWeb : PySem.W.keepIn K (.ref e_NoWeb) = true)
    (xb_NoWeb : PySem.W.subIn K (.ref e_NoWeb) (.type "BaseException") = some true)
    (xt_NoWeb : PySem.W.typeIn K (.ref e_NoWeb) = some (.type "type"))
    (xq_NoWeb : PySem.W.excIn K e_NoWeb [.type "ValueError", .type "Exception", .type "BaseException", .type "object"] "ValueError.__new__" = true)
    (xna_NoWeb_at : PySem.W.findIn K (.ref e_NoWeb) "at" = some none)
    (xg_NoWeb : PySem.W.findIn K (.ref e_NoWeb) "__getattribute__" = some (some (.builtin "BaseException.__getattribute__")))
    (xf_NoWeb : PySem.W.findIn K (.ref e_NoWeb) "__getattr__" = some none)
    (xd_NoWeb : PySem.W.hasDictIn K e_NoWeb = true)
    (xc_NoWeb : PySem.W.findIn K (.ref e_NoWeb) "__class__" = some (some (.builtin "object.__class__")))
    (xm_NoWeb : PySem.W.mroIn K e_NoWeb (.type "object") = some true)
    (xe_NoWeb_TreeError : PySem.W.exmOne K (.ref e_NoWeb) (.ref e_TreeError) = some true)
    (xi_NoWeb_Held : PySem.W.kitOne K (.ref e_NoWeb) (.ref e_Held) = some false)
    (xi_NoWeb_NoCount : PySem.W.kitOne K (.ref e_NoWeb) (.ref e_NoCount) = some false)
    (xi_NoWeb_NoDeed : PySem.W.kitOne K (.ref e_NoWeb) (.ref e_NoDeed) = some false)
    (xi_NoWeb_NoMost : PySem.W.kitOne K (.ref e_NoWeb) (.ref e_NoMost) = some false)
    (xi_NoWeb_NoName : PySem.W.kitOne K (.ref e_NoWeb) (.ref e_NoName) = some false)
    (xi_NoWeb_NoPlace : PySem.W.kitOne K (.ref e_NoWeb) (.ref e_NoPlace) = some false)
    (xi_NoWeb_NoRow : PySem.W.kitOne K (.ref e_NoWeb) (.ref e_NoRow) = some false)
    (xi_NoWeb_NoSpreads : PySem.W.kitOne K (.ref e_NoWeb) (.ref e_NoSpreads) = some false)
    (xi_NoWeb_NoStrengths : PySem.W.kitOne K (.ref e_NoWeb) (.ref e_NoStrengths) = some false)
    (xi_NoWeb_NoSuch : PySem.W.kitOne K (.ref e_NoWeb) (.ref e_NoSuch) = some false)
    (xi_NoWeb_NoTie : PySem.W.kitOne K (.ref e_NoWeb) (.ref e_NoTie) = some false)
    (xi_NoWeb_NoTrees : PySem.W.kitOne K (.ref e_NoWeb) (.ref e_NoTrees) = some false)
    (xi_NoWeb_NoWeb : PySem.W.kitOne K (.ref e_NoWeb) (.ref e_NoWeb) = some true)
    (xi_NoWeb_NotHeld : PySem.W.kitOne K (.ref e_NoWeb) (.ref e_NotHeld) = some false)
    (xi_NoWeb_TooMany : PySem.W.kitOne K (.ref e_NoWeb) (.ref e_TooMany) = some false)
    (xv_NoWeb : PySem.W.kitOne K (.ref e_NoWeb) (.type "ValueError") = some true)
    (xk_TooMany : PySem.W.keepIn K (.ref e_TooMany) = true)
    (xb_TooMany : PySem.W.subIn K (.ref e_TooMany) (.type "BaseException") = some true)
    (xt_TooMany : PySem.W.typeIn K (.ref e_TooMany) = some (.type "type"))
    (xq_TooMany : PySem.W.excIn K e_TooMany [.type "ValueError", .type "Exception", .type "BaseException", .type "object"] "ValueError.__new__" = true)
    (xna_TooMany_at : PySem.W.findIn K (.ref e_TooMany) "at" = some none)
    (xg_TooMany : PySem.W.findIn K (.ref e_TooMany) "__getattribute__" = some (some (.builtin "BaseException.__getattribute__")))
    (xf_TooMany : PySem.W.findIn K (.ref e_TooMany) "__getattr__" = some none)
    (xd_TooMany : PySem.W.hasDictIn K e_TooMany = true)
    (xc_TooMany : PySem.W.findIn K (.ref e_TooMany) "__class__" = some (some (.builtin "object.__class__")))
    (xm_TooMany : PySem.W.mroIn K e_TooMany (.type "object") = some true)
    (xe_TooMany_TreeError : PySem.W.exmOne K (.ref e_TooMany) (.ref e_TreeError) = some true)
    (xi_TooMany_Held : PySem.W.kitOne K (.ref e_TooMany) (.ref e_Held) = some false)
    (xi_TooMany_NoCount : PySem.W.kitOne K (.ref e_TooMany) (.ref e_NoCount) = some false)
    (xi_TooMany_NoDeed : PySem.W.kitOne K (.ref e_TooMany) (.ref e_NoDeed) = some false)
    (xi_TooMany_NoMost : PySem.W.kitOne K (.ref e_TooMany) (.ref e_NoMost) = some false)
    (xi_TooMany_NoName : PySem.W.kitOne K (.ref e_TooMany) (.ref e_NoName) = some false)
    (xi_TooMany_NoPlace : PySem.W.kitOne K (.ref e_TooMany) (.ref e_NoPlace) = some false)
    (xi_TooMany_NoRow : PySem.W.kitOne K (.ref e_TooMany) (.ref e_NoRow) = some false)
    (xi_TooMany_NoSpreads : PySem.W.kitOne K (.ref e_TooMany) (.ref e_NoSpreads) = some false)
    (xi_TooMany_NoStrengths : PySem.W.kitOne K (.ref e_TooMany) (.ref e_NoStrengths) = some false)
    (xi_TooMany_NoSuch : PySem.W.kitOne K (.ref e_TooMany) (.ref e_NoSuch) = some false)
    (xi_TooMany_NoTie : PySem.W.kitOne K (.ref e_TooMany) (.ref e_NoTie) = some false)
    (xi_TooMany_NoTrees : PySem.W.kitOne K (.ref e_TooMany) (.ref e_NoTrees) = some false)
    (xi_TooMany_NoWeb : PySem.W.kitOne K (.ref e_TooMany) (.ref e_NoWeb) = some false)
    (xi_TooMany_NotHeld : PySem.W.kitOne K (.ref e_TooMany) (.ref e_NotHeld) = some false)
    (xi_TooMany_TooMany : PySem.W.kitOne K (.ref e_TooMany) (.ref e_TooMany) = some true)
    (xv_TooMany : PySem.W.kitOne K (.ref e_TooMany) (.type "ValueError") = some true)
    (xs0 : PySem.W.specialIn K (.builtin "object.__class__") "__get__" = some (some (.builtin "getset_descriptor.__get__")))
    (xs1 : PySem.W.takesIn K (.builtin "object.__class__") = some true)
    (z0 : PySem.W.nsIn K mainGlobals "ValueError" = some none)
    (z1 : PySem.W.nsIn K mainGlobals "abs" = some none)
    (z2 : PySem.W.nsIn K mainGlobals "bool" = some none)
    (z3 : PySem.W.nsIn K mainGlobals "divmod" = some none)
    (z4 : PySem.W.nsIn K mainGlobals "enumerate" = some none)
    (z5 : PySem.W.nsIn K mainGlobals "int" = some none)
    (z6 : PySem.W.nsIn K mainGlobals "isinstance" = some none)
    (z7 : PySem.W.nsIn K mainGlobals "len" = some none)
    (z8 : PySem.W.nsIn K mainGlobals "max" = some none)
    (z9 : PySem.W.nsIn K mainGlobals "min" = some none)
    (z10 : PySem.W.nsIn K mainGlobals "range" = some none)
    (z11 : PySem.W.nsIn K mainGlobals "repr" = some none)
    (z12 : PySem.W.nsIn K mainGlobals "super" = some none)
    (z13 : PySem.W.nsIn K mainGlobals "tuple" = some none)
    {tMOST_PLACES : Tok} (wMOST_PLACES : PySem.W.nsIn K mainGlobals "MOST_PLACES" = some (some (.int 9 tMOST_PLACES)))
    {tMOST_TIES : Tok} (wMOST_TIES : PySem.W.nsIn K mainGlobals "MOST_TIES" = some (some (.int 30 tMOST_TIES)))
    : ∃ (fd : FuncData) (cs : List (Addr × Addr)) (sp : Sp), (∀ p ∈ cs, ∃ nm ∈ (["made_web"] : List Str), PySem.W.tabIn K nm = some p) ∧ (∀ p ∈ cs, K.lookup p.2 = none) ∧ (∀ (s : Shared) (v : Value), BindsTo s fd ⟨[v], []⟩ [("_law_script", v)]) ∧ (∀ (H : Hp) (a : Addr) (ns : List Int), ns.length ≤ 63 → (∀ p ∈ cs, GxR.TabG H p.2) → TA.Kinds K cs a H → SqL K H a (ns.map V.int) → sp [.ref a] H (fun v _ => v = .bl true) fun _ _ _ => False) ∧ ∀ b0 : Heap, K.In b0 → b0.Ns mainGlobals mg → (∀ p ∈ cs, GxR.TabB b0 mg p.1 p.2) → TA.FnG l.prog w K mg b0 CX0 7 fa fd ["_law_script"] sp := by
  have e := hfa.symm.trans (PySem.W.mg_of X G alaw)
  cases e
  have F_is_whole := fun_mk (st := s_is_whole) lis_whole cis_whole kis_whole
  have b_is_whole := F_is_whole.binds (ps := ["thing"]) fun _ _ _ _ _ _ us hl => match us, hl with | [_], _ => rfl
  have g_is_whole := PySem.W.mg_of X G ais_whole
  have F_is_place := fun_mk (st := s_is_place) lis_place cis_place kis_place
  have b_is_place := F_is_place.binds (ps := ["places", "thing"]) fun _ _ _ _ _ _ us hl => match us, hl with | [_, _], _ => rfl
  have g_is_place := PySem.W.mg_of X G ais_place
  have F_is_pair := fun_mk (st := s_is_pair) lis_pair cis_pair kis_pair
  have b_is_pair := F_is_pair.binds (ps := ["places", "thing"]) fun _ _ _ _ _ _ us hl => match us, hl with | [_, _], _ => rfl
  have g_is_pair := PySem.W.mg_of X G ais_pair
  have F_refuse_size := fun_mk (st := s_refuse_size) lrefuse_size crefuse_size krefuse_size
  have b_refuse_size := F_refuse_size.binds (ps := ["places"]) fun _ _ _ _ _ _ us hl => match us, hl with | [_], _ => rfl
  have g_refuse_size := PySem.W.mg_of X G arefuse_size
  have F_refuse_layout := fun_mk (st := s_refuse_layout) lrefuse_layout crefuse_layout krefuse_layout
  have b_refuse_layout := F_refuse_layout.binds (ps := ["places", "pairs", "most"]) fun _ _ _ _ _ _ us hl => match us, hl with | [_, _, _], _ => rfl
  have g_refuse_layout := PySem.W.mg_of X G arefuse_layout
  have F_made_web := fun_mk (st := s_made_web) lmade_web cmade_web kmade_web
  have b_made_web := F_made_web.binds (ps := ["places", "ties"]) fun _ _ _ _ _ _ us hl => match us, hl with | [_, _], _ => rfl
  have g_made_web := PySem.W.mg_of X G amade_web
  have F_law_nth := fun_mk (st := s_law_nth) llaw_nth claw_nth klaw_nth
  have b_law_nth := F_law_nth.binds (ps := ["_law_script", "_law_k"]) fun _ _ _ _ _ _ us hl => match us, hl with | [_, _], _ => rfl
  have g_law_nth := PySem.W.mg_of X G alaw_nth
  have F_law_pot := fun_mk (st := s_law_pot) llaw_pot claw_pot klaw_pot
  have b_law_pot := F_law_pot.binds (ps := ["_law_script", "_law_k"]) fun _ _ _ _ _ _ us hl => match us, hl with | [_, _], _ => rfl
  have g_law_pot := PySem.W.mg_of X G alaw_pot
  have F_law_take := fun_mk (st := s_law_take) llaw_take claw_take klaw_take
  have b_law_take := F_law_take.binds (ps := ["_law_pot_here", "_law_many"]) fun _ _ _ _ _ _ us hl => match us, hl with | [_, _], _ => rfl
  have g_law_take := PySem.W.mg_of X G alaw_take
  have F_law_pair := fun_mk (st := s_law_pair) llaw_pair claw_pair klaw_pair
  have b_law_pair := F_law_pair.binds (ps := ["_law_pot_here", "_law_places", "_law_found"]) fun _ _ _ _ _ _ us hl => match us, hl with | [_, _, _], _ => rfl
  have g_law_pair := PySem.W.mg_of X G alaw_pair
  have F_law_pairs := fun_mk (st := s_law_pairs) llaw_pairs claw_pairs klaw_pairs
  have b_law_pairs := F_law_pairs.binds (ps := ["_law_pot_here", "_law_places"]) fun _ _ _ _ _ _ us hl => match us, hl with | [_, _], _ => rfl
  have g_law_pairs := PySem.W.mg_of X G alaw_pairs
  have F_law_is_whole := fun_mk (st := s_law_is_whole) llaw_is_whole claw_is_whole klaw_is_whole
  have b_law_is_whole := F_law_is_whole.binds (ps := ["_law_thing"]) fun _ _ _ _ _ _ us hl => match us, hl with | [_], _ => rfl
  have g_law_is_whole := PySem.W.mg_of X G alaw_is_whole
  have F_law_is_pair := fun_mk (st := s_law_is_pair) llaw_is_pair claw_is_pair klaw_is_pair
  have b_law_is_pair := F_law_is_pair.binds (ps := ["_law_places", "_law_thing"]) fun _ _ _ _ _ _ us hl => match us, hl with | [_, _], _ => rfl
  have g_law_is_pair := PySem.W.mg_of X G alaw_is_pair
  have F_law_odd := fun_mk (st := s_law_odd) llaw_odd claw_odd klaw_odd
  have b_law_odd := F_law_odd.binds (ps := ["_law_pot_here", "_law_places"]) fun _ _ _ _ _ _ us hl => match us, hl with | [_, _], _ => rfl
  have g_law_odd := PySem.W.mg_of X G alaw_odd
  have F_law_no_places := fun_mk (st := s_law_no_places) llaw_no_places claw_no_places klaw_no_places
  have b_law_no_places := F_law_no_places.binds (ps := ["_law_pot_here"]) fun _ _ _ _ _ _ us hl => match us, hl with | [_], _ => rfl
  have g_law_no_places := PySem.W.mg_of X G alaw_no_places
  have F_law_is_other := fun_mk (st := s_law_is_other) llaw_is_other claw_is_other klaw_is_other
  have b_law_is_other := F_law_is_other.binds (ps := ["_law_e"]) fun _ _ _ _ _ _ us hl => match us, hl with | [_], _ => rfl
  have g_law_is_other := PySem.W.mg_of X G alaw_is_other
  have F_law_words := fun_mk (st := s_law_words) llaw_words claw_words klaw_words
  have b_law_words := F_law_words.binds (ps := ["_law_e"]) fun _ _ _ _ _ _ us hl => match us, hl with | [_], _ => rfl
  have g_law_words := PySem.W.mg_of X G alaw_words
  have F_law_told := fun_mk (st := s_law_told) llaw_told claw_told klaw_told
  have b_law_told := F_law_told.binds (ps := ["_law_places", "_law_ties"]) fun _ _ _ _ _ _ us hl => match us, hl with | [_, _], _ => rfl
  have g_law_told := PySem.W.mg_of X G alaw_told
  have F_law := fun_mk (st := s_law) llaw claw klaw
  have b_law := F_law.binds (ps := ["_law_script"]) fun _ _ _ _ _ _ us hl => match us, hl with | [_], _ => rfl
  have g_law := PySem.W.mg_of X G alaw
  have tabmade_web : PySem.W.tabIn K "made_web" = some (c_made_web, T_made_web) := by
    unfold PySem.W.tabIn
    rw [amade_web]
    dsimp only
    rw [lmade_web]
    dsimp only [PySem.W.fnOf]
    rw [tmade_web]
    dsimp only
    rw [imade_web]
  have m_ValueError := PySem.W.mg_none_of X G z0
  have m_abs := PySem.W.mg_none_of X G z1
  have m_bool := PySem.W.mg_none_of X G z2
  have m_divmod := PySem.W.mg_none_of X G z3
  have m_enumerate := PySem.W.mg_none_of X G z4
  have m_int := PySem.W.mg_none_of X G z5
  have m_isinstance := PySem.W.mg_none_of X G z6
  have m_len := PySem.W.mg_none_of X G z7
  have m_max := PySem.W.mg_none_of X G z8
  have m_min := PySem.W.mg_none_of X G z9
  have m_range := PySem.W.mg_none_of X G z10
  have m_repr := PySem.W.mg_none_of X G z11
  have m_super := PySem.W.mg_none_of X G z12
  have m_tuple := PySem.W.mg_none_of X G z13
  have c_MOST_PLACES : ∃ t, mg "MOST_PLACES" = some (.int 9 t) := ⟨_, PySem.W.mg_of X G wMOST_PLACES⟩
  have c_MOST_TIES : ∃ t, mg "MOST_TIES" = some (.int 30 t) := ⟨_, PySem.W.mg_of X G wMOST_TIES⟩
  have X_ec : ∀ c ∈ ([10, 13, 14] : List Nat), ExcC K ((⟨K, [T_made_web], fun n => ([e_Held, e_NoCount, e_NoDeed, e_NoMost, e_NoName, e_NoPlace, e_NoRow, e_NoSpreads, e_NoStrengths, e_NoSuch, e_NoTie, e_NoTrees, e_NotHeld, e_NoWeb, e_TooMany, e_TreeError] : List Addr).getD n 0, none⟩ : Gb).cls c) := fun c hc => by
    simp only [List.mem_cons, List.not_mem_nil, or_false] at hc
    rcases hc with rfl | rfl | rfl
    · exact ⟨xg_NoTie, xf_NoTie, xb_NoTie, xd_NoTie, xc_NoTie, xs0, xs1, xm_NoTie⟩
    · exact ⟨xg_NoWeb, xf_NoWeb, xb_NoWeb, xd_NoWeb, xc_NoWeb, xs0, xs1, xm_NoWeb⟩
    · exact ⟨xg_TooMany, xf_TooMany, xb_TooMany, xd_TooMany, xc_TooMany, xs0, xs1, xm_TooMany⟩
  have X_gE_Held : mg "Held" = some (.ref ((⟨K, [T_made_web], fun n => ([e_Held, e_NoCount, e_NoDeed, e_NoMost, e_NoName, e_NoPlace, e_NoRow, e_NoSpreads, e_NoStrengths, e_NoSuch, e_NoTie, e_NoTrees, e_NotHeld, e_NoWeb, e_TooMany, e_TreeError] : List Addr).getD n 0, none⟩ : Gb).cls 0)) := PySem.W.mg_of X G xa_Held
  have X_gE_NoCount : mg "NoCount" = some (.ref ((⟨K, [T_made_web], fun n => ([e_Held, e_NoCount, e_NoDeed, e_NoMost, e_NoName, e_NoPlace, e_NoRow, e_NoSpreads, e_NoStrengths, e_NoSuch, e_NoTie, e_NoTrees, e_NotHeld, e_NoWeb, e_TooMany, e_TreeError] : List Addr).getD n 0, none⟩ : Gb).cls 1)) := PySem.W.mg_of X G xa_NoCount
  have X_gE_NoDeed : mg "NoDeed" = some (.ref ((⟨K, [T_made_web], fun n => ([e_Held, e_NoCount, e_NoDeed, e_NoMost, e_NoName, e_NoPlace, e_NoRow, e_NoSpreads, e_NoStrengths, e_NoSuch, e_NoTie, e_NoTrees, e_NotHeld, e_NoWeb, e_TooMany, e_TreeError] : List Addr).getD n 0, none⟩ : Gb).cls 2)) := PySem.W.mg_of X G xa_NoDeed
  have X_gE_NoMost : mg "NoMost" = some (.ref ((⟨K, [T_made_web], fun n => ([e_Held, e_NoCount, e_NoDeed, e_NoMost, e_NoName, e_NoPlace, e_NoRow, e_NoSpreads, e_NoStrengths, e_NoSuch, e_NoTie, e_NoTrees, e_NotHeld, e_NoWeb, e_TooMany, e_TreeError] : List Addr).getD n 0, none⟩ : Gb).cls 3)) := PySem.W.mg_of X G xa_NoMost
  have X_gE_NoName : mg "NoName" = some (.ref ((⟨K, [T_made_web], fun n => ([e_Held, e_NoCount, e_NoDeed, e_NoMost, e_NoName, e_NoPlace, e_NoRow, e_NoSpreads, e_NoStrengths, e_NoSuch, e_NoTie, e_NoTrees, e_NotHeld, e_NoWeb, e_TooMany, e_TreeError] : List Addr).getD n 0, none⟩ : Gb).cls 4)) := PySem.W.mg_of X G xa_NoName
  have X_gE_NoPlace : mg "NoPlace" = some (.ref ((⟨K, [T_made_web], fun n => ([e_Held, e_NoCount, e_NoDeed, e_NoMost, e_NoName, e_NoPlace, e_NoRow, e_NoSpreads, e_NoStrengths, e_NoSuch, e_NoTie, e_NoTrees, e_NotHeld, e_NoWeb, e_TooMany, e_TreeError] : List Addr).getD n 0, none⟩ : Gb).cls 5)) := PySem.W.mg_of X G xa_NoPlace
  have X_gE_NoRow : mg "NoRow" = some (.ref ((⟨K, [T_made_web], fun n => ([e_Held, e_NoCount, e_NoDeed, e_NoMost, e_NoName, e_NoPlace, e_NoRow, e_NoSpreads, e_NoStrengths, e_NoSuch, e_NoTie, e_NoTrees, e_NotHeld, e_NoWeb, e_TooMany, e_TreeError] : List Addr).getD n 0, none⟩ : Gb).cls 6)) := PySem.W.mg_of X G xa_NoRow
  have X_gE_NoSpreads : mg "NoSpreads" = some (.ref ((⟨K, [T_made_web], fun n => ([e_Held, e_NoCount, e_NoDeed, e_NoMost, e_NoName, e_NoPlace, e_NoRow, e_NoSpreads, e_NoStrengths, e_NoSuch, e_NoTie, e_NoTrees, e_NotHeld, e_NoWeb, e_TooMany, e_TreeError] : List Addr).getD n 0, none⟩ : Gb).cls 7)) := PySem.W.mg_of X G xa_NoSpreads
  have X_gE_NoStrengths : mg "NoStrengths" = some (.ref ((⟨K, [T_made_web], fun n => ([e_Held, e_NoCount, e_NoDeed, e_NoMost, e_NoName, e_NoPlace, e_NoRow, e_NoSpreads, e_NoStrengths, e_NoSuch, e_NoTie, e_NoTrees, e_NotHeld, e_NoWeb, e_TooMany, e_TreeError] : List Addr).getD n 0, none⟩ : Gb).cls 8)) := PySem.W.mg_of X G xa_NoStrengths
  have X_gE_NoSuch : mg "NoSuch" = some (.ref ((⟨K, [T_made_web], fun n => ([e_Held, e_NoCount, e_NoDeed, e_NoMost, e_NoName, e_NoPlace, e_NoRow, e_NoSpreads, e_NoStrengths, e_NoSuch, e_NoTie, e_NoTrees, e_NotHeld, e_NoWeb, e_TooMany, e_TreeError] : List Addr).getD n 0, none⟩ : Gb).cls 9)) := PySem.W.mg_of X G xa_NoSuch
  have X_gE_NoTie : mg "NoTie" = some (.ref ((⟨K, [T_made_web], fun n => ([e_Held, e_NoCount, e_NoDeed, e_NoMost, e_NoName, e_NoPlace, e_NoRow, e_NoSpreads, e_NoStrengths, e_NoSuch, e_NoTie, e_NoTrees, e_NotHeld, e_NoWeb, e_TooMany, e_TreeError] : List Addr).getD n 0, none⟩ : Gb).cls 10)) := PySem.W.mg_of X G xa_NoTie
  have X_gE_NoTrees : mg "NoTrees" = some (.ref ((⟨K, [T_made_web], fun n => ([e_Held, e_NoCount, e_NoDeed, e_NoMost, e_NoName, e_NoPlace, e_NoRow, e_NoSpreads, e_NoStrengths, e_NoSuch, e_NoTie, e_NoTrees, e_NotHeld, e_NoWeb, e_TooMany, e_TreeError] : List Addr).getD n 0, none⟩ : Gb).cls 11)) := PySem.W.mg_of X G xa_NoTrees
  have X_gE_NoWeb : mg "NoWeb" = some (.ref ((⟨K, [T_made_web], fun n => ([e_Held, e_NoCount, e_NoDeed, e_NoMost, e_NoName, e_NoPlace, e_NoRow, e_NoSpreads, e_NoStrengths, e_NoSuch, e_NoTie, e_NoTrees, e_NotHeld, e_NoWeb, e_TooMany, e_TreeError] : List Addr).getD n 0, none⟩ : Gb).cls 13)) := PySem.W.mg_of X G xa_NoWeb
  have X_gE_NotHeld : mg "NotHeld" = some (.ref ((⟨K, [T_made_web], fun n => ([e_Held, e_NoCount, e_NoDeed, e_NoMost, e_NoName, e_NoPlace, e_NoRow, e_NoSpreads, e_NoStrengths, e_NoSuch, e_NoTie, e_NoTrees, e_NotHeld, e_NoWeb, e_TooMany, e_TreeError] : List Addr).getD n 0, none⟩ : Gb).cls 12)) := PySem.W.mg_of X G xa_NotHeld
  have X_gE_TooMany : mg "TooMany" = some (.ref ((⟨K, [T_made_web], fun n => ([e_Held, e_NoCount, e_NoDeed, e_NoMost, e_NoName, e_NoPlace, e_NoRow, e_NoSpreads, e_NoStrengths, e_NoSuch, e_NoTie, e_NoTrees, e_NotHeld, e_NoWeb, e_TooMany, e_TreeError] : List Addr).getD n 0, none⟩ : Gb).cls 14)) := PySem.W.mg_of X G xa_TooMany
  have X_gE_TreeError : mg "TreeError" = some (.ref ((⟨K, [T_made_web], fun n => ([e_Held, e_NoCount, e_NoDeed, e_NoMost, e_NoName, e_NoPlace, e_NoRow, e_NoSpreads, e_NoStrengths, e_NoSuch, e_NoTie, e_NoTrees, e_NotHeld, e_NoWeb, e_TooMany, e_TreeError] : List Addr).getD n 0, none⟩ : Gb).cls 15)) := PySem.W.mg_of X G xa_TreeError
  have X_em_TreeError : ∀ c ∈ ([10, 13, 14] : List Nat), PySem.W.exmOne K (.ref ((⟨K, [T_made_web], fun n => ([e_Held, e_NoCount, e_NoDeed, e_NoMost, e_NoName, e_NoPlace, e_NoRow, e_NoSpreads, e_NoStrengths, e_NoSuch, e_NoTie, e_NoTrees, e_NotHeld, e_NoWeb, e_TooMany, e_TreeError] : List Addr).getD n 0, none⟩ : Gb).cls c)) (.ref ((⟨K, [T_made_web], fun n => ([e_Held, e_NoCount, e_NoDeed, e_NoMost, e_NoName, e_NoPlace, e_NoRow, e_NoSpreads, e_NoStrengths, e_NoSuch, e_NoTie, e_NoTrees, e_NotHeld, e_NoWeb, e_TooMany, e_TreeError] : List Addr).getD n 0, none⟩ : Gb).cls 15)) = some true := fun c hc => by
    simp only [List.mem_cons, List.not_mem_nil, or_false] at hc
    rcases hc with rfl | rfl | rfl
    · exact xe_NoTie_TreeError
    · exact xe_NoWeb_TreeError
    · exact xe_TooMany_TreeError
  have X_kit_Held : ∀ c ∈ ([10, 13, 14] : List Nat), PySem.W.kitOne K (.ref ((⟨K, [T_made_web], fun n => ([e_Held, e_NoCount, e_NoDeed, e_NoMost, e_NoName, e_NoPlace, e_NoRow, e_NoSpreads, e_NoStrengths, e_NoSuch, e_NoTie, e_NoTrees, e_NotHeld, e_NoWeb, e_TooMany, e_TreeError] : List Addr).getD n 0, none⟩ : Gb).cls c)) (.ref ((⟨K, [T_made_web], fun n => ([e_Held, e_NoCount, e_NoDeed, e_NoMost, e_NoName, e_NoPlace, e_NoRow, e_NoSpreads, e_NoStrengths, e_NoSuch, e_NoTie, e_NoTrees, e_NotHeld, e_NoWeb, e_TooMany, e_TreeError] : List Addr).getD n 0, none⟩ : Gb).cls 0)) = some (decide (c = 0)) := fun c hc => by
    simp only [List.mem_cons, List.not_mem_nil, or_false] at hc
    rcases hc with rfl | rfl | rfl
    · exact xi_NoTie_Held
    · exact xi_NoWeb_Held
    · exact xi_TooMany_Held
  have X_kit_NoCount : ∀ c ∈ ([10, 13, 14] : List Nat), PySem.W.kitOne K (.ref ((⟨K, [T_made_web], fun n => ([e_Held, e_NoCount, e_NoDeed, e_NoMost, e_NoName, e_NoPlace, e_NoRow, e_NoSpreads, e_NoStrengths, e_NoSuch, e_NoTie, e_NoTrees, e_NotHeld, e_NoWeb, e_TooMany, e_TreeError] : List Addr).getD n 0, none⟩ : Gb).cls c)) (.ref ((⟨K, [T_made_web], fun n => ([e_Held, e_NoCount, e_NoDeed, e_NoMost, e_NoName, e_NoPlace, e_NoRow, e_NoSpreads, e_NoStrengths, e_NoSuch, e_NoTie, e_NoTrees, e_NotHeld, e_NoWeb, e_TooMany, e_TreeError] : List Addr).getD n 0, none⟩ : Gb).cls 1)) = some (decide (c = 1)) := fun c hc => by
    simp only [List.mem_cons, List.not_mem_nil, or_false] at hc
    rcases hc with rfl | rfl | rfl
    · exact xi_NoTie_NoCount
    · exact xi_NoWeb_NoCount
    · exact xi_TooMany_NoCount
  have X_kit_NoDeed : ∀ c ∈ ([10, 13, 14] : List Nat), PySem.W.kitOne K (.ref ((⟨K, [T_made_web], fun n => ([e_Held, e_NoCount, e_NoDeed, e_NoMost, e_NoName, e_NoPlace, e_NoRow, e_NoSpreads, e_NoStrengths, e_NoSuch, e_NoTie, e_NoTrees, e_NotHeld, e_NoWeb, e_TooMany, e_TreeError] : List Addr).getD n 0, none⟩ : Gb).cls c)) (.ref ((⟨K, [T_made_web], fun n => ([e_Held, e_NoCount, e_NoDeed, e_NoMost, e_NoName, e_NoPlace, e_NoRow, e_NoSpreads, e_NoStrengths, e_NoSuch, e_NoTie, e_NoTrees, e_NotHeld, e_NoWeb, e_TooMany, e_TreeError] : List Addr).getD n 0, none⟩ : Gb).cls 2)) = some (decide (c = 2)) := fun c hc => by
    simp only [List.mem_cons, List.not_mem_nil, or_false] at hc
    rcases hc with rfl | rfl | rfl
    · exact xi_NoTie_NoDeed
    · exact xi_NoWeb_NoDeed
    · exact xi_TooMany_NoDeed
  have X_kit_NoMost : ∀ c ∈ ([10, 13, 14] : List Nat), PySem.W.kitOne K (.ref ((⟨K, [T_made_web], fun n => ([e_Held, e_NoCount, e_NoDeed, e_NoMost, e_NoName, e_NoPlace, e_NoRow, e_NoSpreads, e_NoStrengths, e_NoSuch, e_NoTie, e_NoTrees, e_NotHeld, e_NoWeb, e_TooMany, e_TreeError] : List Addr).getD n 0, none⟩ : Gb).cls c)) (.ref ((⟨K, [T_made_web], fun n => ([e_Held, e_NoCount, e_NoDeed, e_NoMost, e_NoName, e_NoPlace, e_NoRow, e_NoSpreads, e_NoStrengths, e_NoSuch, e_NoTie, e_NoTrees, e_NotHeld, e_NoWeb, e_TooMany, e_TreeError] : List Addr).getD n 0, none⟩ : Gb).cls 3)) = some (decide (c = 3)) := fun c hc => by
    simp only [List.mem_cons, List.not_mem_nil, or_false] at hc
    rcases hc with rfl | rfl | rfl
    · exact xi_NoTie_NoMost
    · exact xi_NoWeb_NoMost
    · exact xi_TooMany_NoMost
  have X_kit_NoName : ∀ c ∈ ([10, 13, 14] : List Nat), PySem.W.kitOne K (.ref ((⟨K, [T_made_web], fun n => ([e_Held, e_NoCount, e_NoDeed, e_NoMost, e_NoName, e_NoPlace, e_NoRow, e_NoSpreads, e_NoStrengths, e_NoSuch, e_NoTie, e_NoTrees, e_NotHeld, e_NoWeb, e_TooMany, e_TreeError] : List Addr).getD n 0, none⟩ : Gb).cls c)) (.ref ((⟨K, [T_made_web], fun n => ([e_Held, e_NoCount, e_NoDeed, e_NoMost, e_NoName, e_NoPlace, e_NoRow, e_NoSpreads, e_NoStrengths, e_NoSuch, e_NoTie, e_NoTrees, e_NotHeld, e_NoWeb, e_TooMany, e_TreeError] : List Addr).getD n 0, none⟩ : Gb).cls 4)) = some (decide (c = 4)) := fun c hc => by
    simp only [List.mem_cons, List.not_mem_nil, or_false] at hc
    rcases hc with rfl | rfl | rfl
    · exact xi_NoTie_NoName
    · exact xi_NoWeb_NoName
    · exact xi_TooMany_NoName
  have X_kit_NoPlace : ∀ c ∈ ([10, 13, 14] : List Nat), PySem.W.kitOne K (.ref ((⟨K, [T_made_web], fun n => ([e_Held, e_NoCount, e_NoDeed, e_NoMost, e_NoName, e_NoPlace, e_NoRow, e_NoSpreads, e_NoStrengths, e_NoSuch, e_NoTie, e_NoTrees, e_NotHeld, e_NoWeb, e_TooMany, e_TreeError] : List Addr).getD n 0, none⟩ : Gb).cls c)) (.ref ((⟨K, [T_made_web], fun n => ([e_Held, e_NoCount, e_NoDeed, e_NoMost, e_NoName, e_NoPlace, e_NoRow, e_NoSpreads, e_NoStrengths, e_NoSuch, e_NoTie, e_NoTrees, e_NotHeld, e_NoWeb, e_TooMany, e_TreeError] : List Addr).getD n 0, none⟩ : Gb).cls 5)) = some (decide (c = 5)) := fun c hc => by
    simp only [List.mem_cons, List.not_mem_nil, or_false] at hc
    rcases hc with rfl | rfl | rfl
    · exact xi_NoTie_NoPlace
    · exact xi_NoWeb_NoPlace
    · exact xi_TooMany_NoPlace
  have X_kit_NoRow : ∀ c ∈ ([10, 13, 14] : List Nat), PySem.W.kitOne K (.ref ((⟨K, [T_made_web], fun n => ([e_Held, e_NoCount, e_NoDeed, e_NoMost, e_NoName, e_NoPlace, e_NoRow, e_NoSpreads, e_NoStrengths, e_NoSuch, e_NoTie, e_NoTrees, e_NotHeld, e_NoWeb, e_TooMany, e_TreeError] : List Addr).getD n 0, none⟩ : Gb).cls c)) (.ref ((⟨K, [T_made_web], fun n => ([e_Held, e_NoCount, e_NoDeed, e_NoMost, e_NoName, e_NoPlace, e_NoRow, e_NoSpreads, e_NoStrengths, e_NoSuch, e_NoTie, e_NoTrees, e_NotHeld, e_NoWeb, e_TooMany, e_TreeError] : List Addr).getD n 0, none⟩ : Gb).cls 6)) = some (decide (c = 6)) := fun c hc => by
    simp only [List.mem_cons, List.not_mem_nil, or_false] at hc
    rcases hc with rfl | rfl | rfl
    · exact xi_NoTie_NoRow
    · exact xi_NoWeb_NoRow
    · exact xi_TooMany_NoRow
  have X_kit_NoSpreads : ∀ c ∈ ([10, 13, 14] : List Nat), PySem.W.kitOne K (.ref ((⟨K, [T_made_web], fun n => ([e_Held, e_NoCount, e_NoDeed, e_NoMost, e_NoName, e_NoPlace, e_NoRow, e_NoSpreads, e_NoStrengths, e_NoSuch, e_NoTie, e_NoTrees, e_NotHeld, e_NoWeb, e_TooMany, e_TreeError] : List Addr).getD n 0, none⟩ : Gb).cls c)) (.ref ((⟨K, [T_made_web], fun n => ([e_Held, e_NoCount, e_NoDeed, e_NoMost, e_NoName, e_NoPlace, e_NoRow, e_NoSpreads, e_NoStrengths, e_NoSuch, e_NoTie, e_NoTrees, e_NotHeld, e_NoWeb, e_TooMany, e_TreeError] : List Addr).getD n 0, none⟩ : Gb).cls 7)) = some (decide (c = 7)) := fun c hc => by
    simp only [List.mem_cons, List.not_mem_nil, or_false] at hc
    rcases hc with rfl | rfl | rfl
    · exact xi_NoTie_NoSpreads
    · exact xi_NoWeb_NoSpreads
    · exact xi_TooMany_NoSpreads
  have X_kit_NoStrengths : ∀ c ∈ ([10, 13, 14] : List Nat), PySem.W.kitOne K (.ref ((⟨K, [T_made_web], fun n => ([e_Held, e_NoCount, e_NoDeed, e_NoMost, e_NoName, e_NoPlace, e_NoRow, e_NoSpreads, e_NoStrengths, e_NoSuch, e_NoTie, e_NoTrees, e_NotHeld, e_NoWeb, e_TooMany, e_TreeError] : List Addr).getD n 0, none⟩ : Gb).cls c)) (.ref ((⟨K, [T_made_web], fun n => ([e_Held, e_NoCount, e_NoDeed, e_NoMost, e_NoName, e_NoPlace, e_NoRow, e_NoSpreads, e_NoStrengths, e_NoSuch, e_NoTie, e_NoTrees, e_NotHeld, e_NoWeb, e_TooMany, e_TreeError] : List Addr).getD n 0, none⟩ : Gb).cls 8)) = some (decide (c = 8)) := fun c hc => by
    simp only [List.mem_cons, List.not_mem_nil, or_false] at hc
    rcases hc with rfl | rfl | rfl
    · exact xi_NoTie_NoStrengths
    · exact xi_NoWeb_NoStrengths
    · exact xi_TooMany_NoStrengths
  have X_kit_NoSuch : ∀ c ∈ ([10, 13, 14] : List Nat), PySem.W.kitOne K (.ref ((⟨K, [T_made_web], fun n => ([e_Held, e_NoCount, e_NoDeed, e_NoMost, e_NoName, e_NoPlace, e_NoRow, e_NoSpreads, e_NoStrengths, e_NoSuch, e_NoTie, e_NoTrees, e_NotHeld, e_NoWeb, e_TooMany, e_TreeError] : List Addr).getD n 0, none⟩ : Gb).cls c)) (.ref ((⟨K, [T_made_web], fun n => ([e_Held, e_NoCount, e_NoDeed, e_NoMost, e_NoName, e_NoPlace, e_NoRow, e_NoSpreads, e_NoStrengths, e_NoSuch, e_NoTie, e_NoTrees, e_NotHeld, e_NoWeb, e_TooMany, e_TreeError] : List Addr).getD n 0, none⟩ : Gb).cls 9)) = some (decide (c = 9)) := fun c hc => by
    simp only [List.mem_cons, List.not_mem_nil, or_false] at hc
    rcases hc with rfl | rfl | rfl
    · exact xi_NoTie_NoSuch
    · exact xi_NoWeb_NoSuch
    · exact xi_TooMany_NoSuch
  have X_kit_NoTie : ∀ c ∈ ([10, 13, 14] : List Nat), PySem.W.kitOne K (.ref ((⟨K, [T_made_web], fun n => ([e_Held, e_NoCount, e_NoDeed, e_NoMost, e_NoName, e_NoPlace, e_NoRow, e_NoSpreads, e_NoStrengths, e_NoSuch, e_NoTie, e_NoTrees, e_NotHeld, e_NoWeb, e_TooMany, e_TreeError] : List Addr).getD n 0, none⟩ : Gb).cls c)) (.ref ((⟨K, [T_made_web], fun n => ([e_Held, e_NoCount, e_NoDeed, e_NoMost, e_NoName, e_NoPlace, e_NoRow, e_NoSpreads, e_NoStrengths, e_NoSuch, e_NoTie, e_NoTrees, e_NotHeld, e_NoWeb, e_TooMany, e_TreeError] : List Addr).getD n 0, none⟩ : Gb).cls 10)) = some (decide (c = 10)) := fun c hc => by
    simp only [List.mem_cons, List.not_mem_nil, or_false] at hc
    rcases hc with rfl | rfl | rfl
    · exact xi_NoTie_NoTie
    · exact xi_NoWeb_NoTie
    · exact xi_TooMany_NoTie
  have X_kit_NoTrees : ∀ c ∈ ([10, 13, 14] : List Nat), PySem.W.kitOne K (.ref ((⟨K, [T_made_web], fun n => ([e_Held, e_NoCount, e_NoDeed, e_NoMost, e_NoName, e_NoPlace, e_NoRow, e_NoSpreads, e_NoStrengths, e_NoSuch, e_NoTie, e_NoTrees, e_NotHeld, e_NoWeb, e_TooMany, e_TreeError] : List Addr).getD n 0, none⟩ : Gb).cls c)) (.ref ((⟨K, [T_made_web], fun n => ([e_Held, e_NoCount, e_NoDeed, e_NoMost, e_NoName, e_NoPlace, e_NoRow, e_NoSpreads, e_NoStrengths, e_NoSuch, e_NoTie, e_NoTrees, e_NotHeld, e_NoWeb, e_TooMany, e_TreeError] : List Addr).getD n 0, none⟩ : Gb).cls 11)) = some (decide (c = 11)) := fun c hc => by
    simp only [List.mem_cons, List.not_mem_nil, or_false] at hc
    rcases hc with rfl | rfl | rfl
    · exact xi_NoTie_NoTrees
    · exact xi_NoWeb_NoTrees
    · exact xi_TooMany_NoTrees
  have X_kit_NoWeb : ∀ c ∈ ([10, 13, 14] : List Nat), PySem.W.kitOne K (.ref ((⟨K, [T_made_web], fun n => ([e_Held, e_NoCount, e_NoDeed, e_NoMost, e_NoName, e_NoPlace, e_NoRow, e_NoSpreads, e_NoStrengths, e_NoSuch, e_NoTie, e_NoTrees, e_NotHeld, e_NoWeb, e_TooMany, e_TreeError] : List Addr).getD n 0, none⟩ : Gb).cls c)) (.ref ((⟨K, [T_made_web], fun n => ([e_Held, e_NoCount, e_NoDeed, e_NoMost, e_NoName, e_NoPlace, e_NoRow, e_NoSpreads, e_NoStrengths, e_NoSuch, e_NoTie, e_NoTrees, e_NotHeld, e_NoWeb, e_TooMany, e_TreeError] : List Addr).getD n 0, none⟩ : Gb).cls 13)) = some (decide (c = 13)) := fun c hc => by
    simp only [List.mem_cons, List.not_mem_nil, or_false] at hc
    rcases hc with rfl | rfl | rfl
    · exact xi_NoTie_NoWeb
    · exact xi_NoWeb_NoWeb
    · exact xi_TooMany_NoWeb
  have X_kit_NotHeld : ∀ c ∈ ([10, 13, 14] : List Nat), PySem.W.kitOne K (.ref ((⟨K, [T_made_web], fun n => ([e_Held, e_NoCount, e_NoDeed, e_NoMost, e_NoName, e_NoPlace, e_NoRow, e_NoSpreads, e_NoStrengths, e_NoSuch, e_NoTie, e_NoTrees, e_NotHeld, e_NoWeb, e_TooMany, e_TreeError] : List Addr).getD n 0, none⟩ : Gb).cls c)) (.ref ((⟨K, [T_made_web], fun n => ([e_Held, e_NoCount, e_NoDeed, e_NoMost, e_NoName, e_NoPlace, e_NoRow, e_NoSpreads, e_NoStrengths, e_NoSuch, e_NoTie, e_NoTrees, e_NotHeld, e_NoWeb, e_TooMany, e_TreeError] : List Addr).getD n 0, none⟩ : Gb).cls 12)) = some (decide (c = 12)) := fun c hc => by
    simp only [List.mem_cons, List.not_mem_nil, or_false] at hc
    rcases hc with rfl | rfl | rfl
    · exact xi_NoTie_NotHeld
    · exact xi_NoWeb_NotHeld
    · exact xi_TooMany_NotHeld
  have X_kit_TooMany : ∀ c ∈ ([10, 13, 14] : List Nat), PySem.W.kitOne K (.ref ((⟨K, [T_made_web], fun n => ([e_Held, e_NoCount, e_NoDeed, e_NoMost, e_NoName, e_NoPlace, e_NoRow, e_NoSpreads, e_NoStrengths, e_NoSuch, e_NoTie, e_NoTrees, e_NotHeld, e_NoWeb, e_TooMany, e_TreeError] : List Addr).getD n 0, none⟩ : Gb).cls c)) (.ref ((⟨K, [T_made_web], fun n => ([e_Held, e_NoCount, e_NoDeed, e_NoMost, e_NoName, e_NoPlace, e_NoRow, e_NoSpreads, e_NoStrengths, e_NoSuch, e_NoTie, e_NoTrees, e_NotHeld, e_NoWeb, e_TooMany, e_TreeError] : List Addr).getD n 0, none⟩ : Gb).cls 14)) = some (decide (c = 14)) := fun c hc => by
    simp only [List.mem_cons, List.not_mem_nil, or_false] at hc
    rcases hc with rfl | rfl | rfl
    · exact xi_NoTie_TooMany
    · exact xi_NoWeb_TooMany
    · exact xi_TooMany_TooMany
  have X_kit_V : ∀ c ∈ ([10, 13, 14] : List Nat), PySem.W.kitOne K (.ref ((⟨K, [T_made_web], fun n => ([e_Held, e_NoCount, e_NoDeed, e_NoMost, e_NoName, e_NoPlace, e_NoRow, e_NoSpreads, e_NoStrengths, e_NoSuch, e_NoTie, e_NoTrees, e_NotHeld, e_NoWeb, e_TooMany, e_TreeError] : List Addr).getD n 0, none⟩ : Gb).cls c)) (.type "ValueError") = some true := fun c hc => by
    simp only [List.mem_cons, List.not_mem_nil, or_false] at hc
    rcases hc with rfl | rfl | rfl
    · exact xv_NoTie
    · exact xv_NoWeb
    · exact xv_TooMany
  have X_z_NoTie : RzC (⟨K, [T_made_web], fun n => ([e_Held, e_NoCount, e_NoDeed, e_NoMost, e_NoName, e_NoPlace, e_NoRow, e_NoSpreads, e_NoStrengths, e_NoSuch, e_NoTie, e_NoTrees, e_NotHeld, e_NoWeb, e_TooMany, e_TreeError] : List Addr).getD n 0, none⟩ : Gb) mg "NoTie" 10 := ⟨PySem.W.mg_of X G xa_NoTie, xk_NoTie, xb_NoTie, xt_NoTie⟩
  have X_z_NoWeb : RzC (⟨K, [T_made_web], fun n => ([e_Held, e_NoCount, e_NoDeed, e_NoMost, e_NoName, e_NoPlace, e_NoRow, e_NoSpreads, e_NoStrengths, e_NoSuch, e_NoTie, e_NoTrees, e_NotHeld, e_NoWeb, e_TooMany, e_TreeError] : List Addr).getD n 0, none⟩ : Gb) mg "NoWeb" 13 := ⟨PySem.W.mg_of X G xa_NoWeb, xk_NoWeb, xb_NoWeb, xt_NoWeb⟩
  have X_z_TooMany : RzC (⟨K, [T_made_web], fun n => ([e_Held, e_NoCount, e_NoDeed, e_NoMost, e_NoName, e_NoPlace, e_NoRow, e_NoSpreads, e_NoStrengths, e_NoSuch, e_NoTie, e_NoTrees, e_NotHeld, e_NoWeb, e_TooMany, e_TreeError] : List Addr).getD n 0, none⟩ : Gb) mg "TooMany" 14 := ⟨PySem.W.mg_of X G xa_TooMany, xk_TooMany, xb_TooMany, xt_TooMany⟩
  have X_no_at : ∀ c ∈ ([10, 13, 14] : List Nat), PySem.W.findIn K (.ref ((⟨K, [T_made_web], fun n => ([e_Held, e_NoCount, e_NoDeed, e_NoMost, e_NoName, e_NoPlace, e_NoRow, e_NoSpreads, e_NoStrengths, e_NoSuch, e_NoTie, e_NoTrees, e_NotHeld, e_NoWeb, e_TooMany, e_TreeError] : List Addr).getD n 0, none⟩ : Gb).cls c)) "at" = some none := fun c hc => by
    simp only [List.mem_cons, List.not_mem_nil, or_false] at hc
    rcases hc with rfl | rfl | rfl
    · exact xna_NoTie_at
    · exact xna_NoWeb_at
    · exact xna_TooMany_at
  subst yd_NoTie
  have X_o_NoTie : OexC K ((⟨K, [T_made_web], fun n => ([e_Held, e_NoCount, e_NoDeed, e_NoMost, e_NoName, e_NoPlace, e_NoRow, e_NoSpreads, e_NoStrengths, e_NoSuch, e_NoTie, e_NoTrees, e_NotHeld, e_NoWeb, e_TooMany, e_TreeError] : List Addr).getD n 0, none⟩ : Gb).cls 10) := ⟨⟨_, _, _, _, _, _, _, _, _, _, _, _, _, _, _, yo_NoTie, yr_NoTie⟩, ys_NoTie, xb_NoTie, xt_NoTie, xk_NoTie⟩
  have X_I_NoTie : OInit l.prog K mg ((⟨K, [T_made_web], fun n => ([e_Held, e_NoCount, e_NoDeed, e_NoMost, e_NoName, e_NoPlace, e_NoRow, e_NoSpreads, e_NoStrengths, e_NoSuch, e_NoTie, e_NoTrees, e_NotHeld, e_NoWeb, e_TooMany, e_TreeError] : List Addr).getD n 0, none⟩ : Gb).cls 10) "NoTie.__init__" s_i_NoTie fi_NoTie _ := ⟨⟨ci_NoTie, cci_NoTie, _, _, _, _, _, _, _, _, _, rfl, yl_NoTie, yc_NoTie, ⟨X_o_NoTie, ⟨_, _, _, ye_NoTie⟩, ⟨_, yk_NoTie⟩, ym_NoTie, yp_NoTie, yv_NoTie, yq_NoTie, ⟨_, _, _, _, _, _, yx_NoTie, yy_NoTie, yz_NoTie⟩, yw_NoTie, m_super⟩⟩, yi_NoTie, yt_NoTie⟩
  have X_b_NoTie := binds_init (K := K) (fd := PySem.W.ksFn "__init__" "NoTie.__init__" (defArgs s_i_NoTie) (defBody s_i_NoTie) (defScope s_i_NoTie) .none kVi_NoTie dci_NoTie pmi_NoTie ani_NoTie (.ref ci_NoTie) cti_NoTie cci_NoTie) (ps := ["self", "at"]) fun us hl => match us, hl with | [_, _], _ => rfl
  refine ⟨PySem.W.fnOf "law" "law" (defArgs s_law) (defBody s_law) (defScope s_law) .none kVlaw dclaw pmlaw anlaw cdlaw ctlaw, [(c_made_web, T_made_web)], spV ⟨K, [T_made_web], fun n => ([e_Held, e_NoCount, e_NoDeed, e_NoMost, e_NoName, e_NoPlace, e_NoRow, e_NoSpreads, e_NoStrengths, e_NoSuch, e_NoTie, e_NoTrees, e_NotHeld, e_NoWeb, e_TooMany, e_TreeError] : List Addr).getD n 0, none⟩ [] true 1 f_law, fun p hp => ?_, fun p hp => ?_, fun s v => .of_eq rfl, fun H a ns hl hT kd hS => ?_, fun b0 _ _ hTB => ?_⟩
  · simp only [List.mem_cons, List.not_mem_nil, or_false] at hp
    rcases hp with rfl
    · exact ⟨_, by decide, tabmade_web⟩
  · simp only [List.mem_cons, List.not_mem_nil, or_false] at hp
    rcases hp with rfl
    · exact nmade_web
  · refine law_endT (fun T hT' => ?_) kd hS (law_true ns hl)
    simp only [List.mem_cons, List.not_mem_nil, or_false] at hT'
    · rw [hT']; exact hT (c_made_web, T_made_web) (by simp)
  · let Q : Fx ⟨K, [T_made_web], fun n => ([e_Held, e_NoCount, e_NoDeed, e_NoMost, e_NoName, e_NoPlace, e_NoRow, e_NoSpreads, e_NoStrengths, e_NoSuch, e_NoTie, e_NoTrees, e_NotHeld, e_NoWeb, e_TooMany, e_TreeError] : List Addr).getD n 0, none⟩ mg b0 l.prog := { a_is_whole := _, fd_is_whole := _, F_is_whole := F_is_whole, b_is_whole := b_is_whole, g_is_whole := g_is_whole, a_is_place := _, fd_is_place := _, F_is_place := F_is_place, b_is_place := b_is_place, g_is_place := g_is_place, a_is_pair := _, fd_is_pair := _, F_is_pair := F_is_pair, b_is_pair := b_is_pair, g_is_pair := g_is_pair, a_refuse_size := _, fd_refuse_size := _, F_refuse_size := F_refuse_size, b_refuse_size := b_refuse_size, g_refuse_size := g_refuse_size, a_refuse_layout := _, fd_refuse_layout := _, F_refuse_layout := F_refuse_layout, b_refuse_layout := b_refuse_layout, g_refuse_layout := g_refuse_layout, a_made_web := _, fd_made_web := _, F_made_web := F_made_web, b_made_web := b_made_web, g_made_web := g_made_web, a_law_nth := _, fd_law_nth := _, F_law_nth := F_law_nth, b_law_nth := b_law_nth, g_law_nth := g_law_nth, a_law_pot := _, fd_law_pot := _, F_law_pot := F_law_pot, b_law_pot := b_law_pot, g_law_pot := g_law_pot, a_law_take := _, fd_law_take := _, F_law_take := F_law_take, b_law_take := b_law_take, g_law_take := g_law_take, a_law_pair := _, fd_law_pair := _, F_law_pair := F_law_pair, b_law_pair := b_law_pair, g_law_pair := g_law_pair, a_law_pairs := _, fd_law_pairs := _, F_law_pairs := F_law_pairs, b_law_pairs := b_law_pairs, g_law_pairs := g_law_pairs, a_law_is_whole := _, fd_law_is_whole := _, F_law_is_whole := F_law_is_whole, b_law_is_whole := b_law_is_whole, g_law_is_whole := g_law_is_whole, a_law_is_pair := _, fd_law_is_pair := _, F_law_is_pair := F_law_is_pair, b_law_is_pair := b_law_is_pair, g_law_is_pair := g_law_is_pair, a_law_odd := _, fd_law_odd := _, F_law_odd := F_law_odd, b_law_odd := b_law_odd, g_law_odd := g_law_odd, a_law_no_places := _, fd_law_no_places := _, F_law_no_places := F_law_no_places, b_law_no_places := b_law_no_places, g_law_no_places := g_law_no_places, a_law_is_other := _, fd_law_is_other := _, F_law_is_other := F_law_is_other, b_law_is_other := b_law_is_other, g_law_is_other := g_law_is_other, a_law_words := _, fd_law_words := _, F_law_words := F_law_words, b_law_words := b_law_words, g_law_words := g_law_words, a_law_told := _, fd_law_told := _, F_law_told := F_law_told, b_law_told := b_law_told, g_law_told := g_law_told, a_law := _, fd_law := _, F_law := F_law, b_law := b_law, g_law := g_law, c_made_web := c_made_web, T_made_web := T_made_web, h_made_web := rfl, t_made_web := ⟨by simp, Lmade_web⟩, B_made_web := hTB (c_made_web, T_made_web) (by simp), m_ValueError := m_ValueError, m_abs := m_abs, m_bool := m_bool, m_divmod := m_divmod, m_enumerate := m_enumerate, m_int := m_int, m_isinstance := m_isinstance, m_len := m_len, m_max := m_max, m_min := m_min, m_range := m_range, m_repr := m_repr, m_super := m_super, m_tuple := m_tuple, c_MOST_PLACES := c_MOST_PLACES, c_MOST_TIES := c_MOST_TIES, hot0 := rfl, ec := X_ec, gE_Held := X_gE_Held, gE_NoCount := X_gE_NoCount, gE_NoDeed := X_gE_NoDeed, gE_NoMost := X_gE_NoMost, gE_NoName := X_gE_NoName, gE_NoPlace := X_gE_NoPlace, gE_NoRow := X_gE_NoRow, gE_NoSpreads := X_gE_NoSpreads, gE_NoStrengths := X_gE_NoStrengths, gE_NoSuch := X_gE_NoSuch, gE_NoTie := X_gE_NoTie, gE_NoTrees := X_gE_NoTrees, gE_NoWeb := X_gE_NoWeb, gE_NotHeld := X_gE_NotHeld, gE_TooMany := X_gE_TooMany, gE_TreeError := X_gE_TreeError, em_TreeError := X_em_TreeError, kit_Held := X_kit_Held, kit_NoCount := X_kit_NoCount, kit_NoDeed := X_kit_NoDeed, kit_NoMost := X_kit_NoMost, kit_NoName := X_kit_NoName, kit_NoPlace := X_kit_NoPlace, kit_NoRow := X_kit_NoRow, kit_NoSpreads := X_kit_NoSpreads, kit_NoStrengths := X_kit_NoStrengths, kit_NoSuch := X_kit_NoSuch, kit_NoTie := X_kit_NoTie, kit_NoTrees := X_kit_NoTrees, kit_NoWeb := X_kit_NoWeb, kit_NotHeld := X_kit_NotHeld, kit_TooMany := X_kit_TooMany, kit_ValueError := X_kit_V, z_NoTie := X_z_NoTie, z_NoWeb := X_z_NoWeb, q_NoWeb := xq_NoWeb, z_TooMany := X_z_TooMany, q_TooMany := xq_TooMany, no_at := X_no_at, o_NoTie := X_o_NoTie, Ia_NoTie := fi_NoTie, If_NoTie := _, I_NoTie := X_I_NoTie, Ib_NoTie := X_b_NoTie }
    exact ok_law Q
end VL
open PySem PySem.W PyProof.Rows
set_option maxHeartbeats 0 in
theorem PySem.Challenge.cw_treesapart_k12_no_webs_holds : PySem.Challenge.rw_treesapart_k12_no_webs.Holds := by
  w_on; o_law; k_head; (case hw => w_witness2)
  k_fill
  refine TA.walkGTK (l := PySem.Challenge.rw_treesapart_k12_no_webs) (n := 63) (k := 7) (x := "_law_script") ["made_web"] rfl (by decide) rfl ⟨rfl, by decide, by decide⟩ ?R (fun w h Y => by first | exact PySem.W.kIn_of Y | exact PySem.W.km_in_of Y) ?F
  case R =>
    intro nm hnm
    first | (rw [List.mem_singleton.mp hnm]; exact ⟨_, by rfl⟩) | (simp only [List.mem_cons, List.not_mem_nil, or_false] at hnm; rcases hnm with rfl <;> exact ⟨_, by rfl⟩)
  case F =>
    intro w mg fa h KX G hmg
    refine' VL.all_mk KX G hmg ?ais_whole ?lis_whole ?cis_whole ?kis_whole ?ais_place ?lis_place ?cis_place ?kis_place ?ais_pair ?lis_pair ?cis_pair ?kis_pair ?arefuse_size ?lrefuse_size ?crefuse_size ?krefuse_size ?arefuse_layout ?lrefuse_layout ?crefuse_layout ?krefuse_layout ?amade_web ?lmade_web ?cmade_web ?kmade_web ?tmade_web ?imade_web ?nmade_web ?Lmade_web ?alaw_nth ?llaw_nth ?claw_nth ?klaw_nth ?alaw_pot ?llaw_pot ?claw_pot ?klaw_pot ?alaw_take ?llaw_take ?claw_take ?klaw_take ?alaw_pair ?llaw_pair ?claw_pair ?klaw_pair ?alaw_pairs ?llaw_pairs ?claw_pairs ?klaw_pairs ?alaw_is_whole ?llaw_is_whole ?claw_is_whole ?klaw_is_whole ?alaw_is_pair ?llaw_is_pair ?claw_is_pair ?klaw_is_pair ?alaw_odd ?llaw_odd ?claw_odd ?klaw_odd ?alaw_no_places ?llaw_no_places ?claw_no_places ?klaw_no_places ?alaw_is_other ?llaw_is_other ?claw_is_other ?klaw_is_other ?alaw_words ?llaw_words ?claw_words ?klaw_words ?alaw_told ?llaw_told ?claw_told ?klaw_told ?alaw ?llaw ?claw ?klaw ?xa_Held ?xa_NoCount ?xa_NoDeed ?xa_NoMost ?xa_NoName ?xa_NoPlace ?xa_NoRow ?xa_NoSpreads ?xa_NoStrengths ?xa_NoSuch ?xa_NoTie ?xa_NoTrees ?xa_NoWeb ?xa_NotHeld ?xa_TooMany ?xa_TreeError ?xk_NoTie ?xb_NoTie ?xt_NoTie ?xna_NoTie_at ?yi_NoTie ?yl_NoTie ?yd_NoTie ?yc_NoTie ?yt_NoTie ?yo_NoTie ?yr_NoTie ?ys_NoTie ?ye_NoTie ?yk_NoTie ?ym_NoTie ?yp_NoTie ?yv_NoTie ?yq_NoTie ?yx_NoTie ?yy_NoTie ?yz_NoTie ?yw_NoTie ?xg_NoTie ?xf_NoTie ?xd_NoTie ?xc_NoTie ?xm_NoTie ?xe_NoTie_TreeError ?xi_NoTie_Held ?xi_NoTie_NoCount ?xi_NoTie_NoDeed ?xi_NoTie_NoMost ?xi_NoTie_NoName ?xi_NoTie_NoPlace ?xi_NoTie_NoRow ?xi_NoTie_NoSpreads ?xi_NoTie_NoStrengths ?xi_NoTie_NoSuch ?xi_NoTie_NoTie ?xi_NoTie_NoTrees ?xi_NoTie_NoWeb ?xi_NoTie_NotHeld ?xi_NoTie_TooMany ?xv_NoTie ?xk_NoWeb ?xb_NoWeb ?xt_NoWeb ?xq_NoWeb ?xna_NoWeb_at ?xg_NoWeb ?xf_NoWeb ?xd_NoWeb ?xc_NoWeb ?xm_NoWeb ?xe_NoWeb_TreeError ?xi_NoWeb_Held ?xi_NoWeb_NoCount ?xi_NoWeb_NoDeed ?xi_NoWeb_NoMost ?xi_NoWeb_NoName ?xi_NoWeb_NoPlace ?xi_NoWeb_NoRow ?xi_NoWeb_NoSpreads ?xi_NoWeb_NoStrengths ?xi_NoWeb_NoSuch ?xi_NoWeb_NoTie ?xi_NoWeb_NoTrees ?xi_NoWeb_NoWeb ?xi_NoWeb_NotHeld ?xi_NoWeb_TooMany ?xv_NoWeb ?xk_TooMany ?xb_TooMany ?xt_TooMany ?xq_TooMany ?xna_TooMany_at ?xg_TooMany ?xf_TooMany ?xd_TooMany ?xc_TooMany ?xm_TooMany ?xe_TooMany_TreeError ?xi_TooMany_Held ?xi_TooMany_NoCount ?xi_TooMany_NoDeed ?xi_TooMany_NoMost ?xi_TooMany_NoName ?xi_TooMany_NoPlace ?xi_TooMany_NoRow ?xi_TooMany_NoSpreads ?xi_TooMany_NoStrengths ?xi_TooMany_NoSuch ?xi_TooMany_NoTie ?xi_TooMany_NoTrees ?xi_TooMany_NoWeb ?xi_TooMany_NotHeld ?xi_TooMany_TooMany ?xv_TooMany ?xs0 ?xs1 ?z0 ?z1 ?z2 ?z3 ?z4 ?z5 ?z6 ?z7 ?z8 ?z9 ?z10 ?z11 ?z12 ?z13 ?wMOST_PLACES ?wMOST_TIES
    (case ais_whole => k_is); (case lis_whole => k_is); (case cis_whole => k_is); (case kis_whole => k_is); (case ais_place => k_is); (case lis_place => k_is); (case cis_place => k_is); (case kis_place => k_is); (case ais_pair => k_is); (case lis_pair => k_is); (case cis_pair => k_is); (case kis_pair => k_is); (case arefuse_size => k_is); (case lrefuse_size => k_is); (case crefuse_size => k_is); (case krefuse_size => k_is); (case arefuse_layout => k_is); (case lrefuse_layout => k_is); (case crefuse_layout => k_is); (case krefuse_layout => k_is); (case amade_web => k_is); (case lmade_web => k_is); (case cmade_web => k_is); (case kmade_web => k_is); (case tmade_web => k_is); (case imade_web => first | exact rfl | kernel_rfl); (case nmade_web => first | exact rfl | kernel_rfl); (case Lmade_web => first | decide +kernel | exact rfl); (case alaw_nth => k_is); (case llaw_nth => k_is); (case claw_nth => k_is); (case klaw_nth => k_is); (case alaw_pot => k_is); (case llaw_pot => k_is); (case claw_pot => k_is); (case klaw_pot => k_is); (case alaw_take => k_is); (case llaw_take => k_is); (case claw_take => k_is); (case klaw_take => k_is); (case alaw_pair => k_is); (case llaw_pair => k_is); (case claw_pair => k_is); (case klaw_pair => k_is); (case alaw_pairs => k_is); (case llaw_pairs => k_is); (case claw_pairs => k_is); (case klaw_pairs => k_is); (case alaw_is_whole => k_is); (case llaw_is_whole => k_is); (case claw_is_whole => k_is); (case klaw_is_whole => k_is); (case alaw_is_pair => k_is); (case llaw_is_pair => k_is); (case claw_is_pair => k_is); (case klaw_is_pair => k_is); (case alaw_odd => k_is); (case llaw_odd => k_is); (case claw_odd => k_is); (case klaw_odd => k_is); (case alaw_no_places => k_is); (case llaw_no_places => k_is); (case claw_no_places => k_is); (case klaw_no_places => k_is); (case alaw_is_other => k_is); (case llaw_is_other => k_is); (case claw_is_other => k_is); (case klaw_is_other => k_is); (case alaw_words => k_is); (case llaw_words => k_is); (case claw_words => k_is); (case klaw_words => k_is); (case alaw_told => k_is); (case llaw_told => k_is); (case claw_told => k_is); (case klaw_told => k_is); (case alaw => k_is); (case llaw => k_is); (case claw => k_is); (case klaw => k_is); (case xa_Held => k_is); (case xa_NoCount => k_is); (case xa_NoDeed => k_is); (case xa_NoMost => k_is); (case xa_NoName => k_is); (case xa_NoPlace => k_is); (case xa_NoRow => k_is); (case xa_NoSpreads => k_is); (case xa_NoStrengths => k_is); (case xa_NoSuch => k_is); (case xa_NoTie => k_is); (case xa_NoTrees => k_is); (case xa_NoWeb => k_is); (case xa_NotHeld => k_is); (case xa_TooMany => k_is); (case xa_TreeError => k_is); (case xk_NoTie => k_is); (case xb_NoTie => k_is); (case xt_NoTie => k_is); (case xna_NoTie_at => k_is); (case yi_NoTie => first | k_is | kernel_rfl | decide +kernel | exact rfl); (case yl_NoTie => first | k_is | kernel_rfl | decide +kernel | exact rfl); (case yd_NoTie => first | exact rfl | kernel_rfl | decide +kernel); (case yc_NoTie => first | k_is | kernel_rfl | decide +kernel | exact rfl); (case yt_NoTie => first | k_is | kernel_rfl | decide +kernel | exact rfl); (case yo_NoTie => first | k_is | kernel_rfl | decide +kernel | exact rfl); (case yr_NoTie => first | exact rfl | kernel_rfl | decide +kernel); (case ys_NoTie => first | k_is | kernel_rfl | decide +kernel | exact rfl); (case ye_NoTie => first | k_is | kernel_rfl | decide +kernel | exact rfl); (case yk_NoTie => first | k_is | kernel_rfl | decide +kernel | exact rfl); (case ym_NoTie => first | k_is | kernel_rfl | decide +kernel | exact rfl); (case yp_NoTie => first | k_is | kernel_rfl | decide +kernel | exact rfl); (case yv_NoTie => first | k_is | kernel_rfl | decide +kernel | exact rfl); (case yq_NoTie => first | k_is | kernel_rfl | decide +kernel | exact rfl); (case yx_NoTie => first | k_is | kernel_rfl | decide +kernel | exact rfl); (case yy_NoTie => first | exact rfl | kernel_rfl | decide +kernel); (case yz_NoTie => first | exact rfl | kernel_rfl | decide +kernel); (case yw_NoTie => first | exact rfl | kernel_rfl | decide +kernel); (case xg_NoTie => k_is); (case xf_NoTie => k_is); (case xd_NoTie => k_is); (case xc_NoTie => k_is); (case xm_NoTie => k_is); (case xe_NoTie_TreeError => first | kernel_rfl | decide +kernel | exact rfl); (case xi_NoTie_Held => first | kernel_rfl | decide +kernel | exact rfl); (case xi_NoTie_NoCount => first | kernel_rfl | decide +kernel | exact rfl); (case xi_NoTie_NoDeed => first | kernel_rfl | decide +kernel | exact rfl); (case xi_NoTie_NoMost => first | kernel_rfl | decide +kernel | exact rfl); (case xi_NoTie_NoName => first | kernel_rfl | decide +kernel | exact rfl); (case xi_NoTie_NoPlace => first | kernel_rfl | decide +kernel | exact rfl); (case xi_NoTie_NoRow => first | kernel_rfl | decide +kernel | exact rfl); (case xi_NoTie_NoSpreads => first | kernel_rfl | decide +kernel | exact rfl); (case xi_NoTie_NoStrengths => first | kernel_rfl | decide +kernel | exact rfl); (case xi_NoTie_NoSuch => first | kernel_rfl | decide +kernel | exact rfl); (case xi_NoTie_NoTie => first | kernel_rfl | decide +kernel | exact rfl); (case xi_NoTie_NoTrees => first | kernel_rfl | decide +kernel | exact rfl); (case xi_NoTie_NoWeb => first | kernel_rfl | decide +kernel | exact rfl); (case xi_NoTie_NotHeld => first | kernel_rfl | decide +kernel | exact rfl); (case xi_NoTie_TooMany => first | kernel_rfl | decide +kernel | exact rfl); (case xv_NoTie => first | kernel_rfl | decide +kernel | exact rfl); (case xk_NoWeb => k_is); (case xb_NoWeb => k_is); (case xt_NoWeb => k_is); (case xq_NoWeb => first | kernel_rfl | decide +kernel | exact rfl); (case xna_NoWeb_at => k_is); (case xg_NoWeb => k_is); (case xf_NoWeb => k_is); (case xd_NoWeb => k_is); (case xc_NoWeb => k_is); (case xm_NoWeb => k_is); (case xe_NoWeb_TreeError => first | kernel_rfl | decide +kernel | exact rfl); (case xi_NoWeb_Held => first | kernel_rfl | decide +kernel | exact rfl); (case xi_NoWeb_NoCount => first | kernel_rfl | decide +kernel | exact rfl); (case xi_NoWeb_NoDeed => first | kernel_rfl | decide +kernel | exact rfl); (case xi_NoWeb_NoMost => first | kernel_rfl | decide +kernel | exact rfl); (case xi_NoWeb_NoName => first | kernel_rfl | decide +kernel | exact rfl); (case xi_NoWeb_NoPlace => first | kernel_rfl | decide +kernel | exact rfl); (case xi_NoWeb_NoRow => first | kernel_rfl | decide +kernel | exact rfl); (case xi_NoWeb_NoSpreads => first | kernel_rfl | decide +kernel | exact rfl); (case xi_NoWeb_NoStrengths => first | kernel_rfl | decide +kernel | exact rfl); (case xi_NoWeb_NoSuch => first | kernel_rfl | decide +kernel | exact rfl); (case xi_NoWeb_NoTie => first | kernel_rfl | decide +kernel | exact rfl); (case xi_NoWeb_NoTrees => first | kernel_rfl | decide +kernel | exact rfl); (case xi_NoWeb_NoWeb => first | kernel_rfl | decide +kernel | exact rfl); (case xi_NoWeb_NotHeld => first | kernel_rfl | decide +kernel | exact rfl); (case xi_NoWeb_TooMany => first | kernel_rfl | decide +kernel | exact rfl); (case xv_NoWeb => first | kernel_rfl | decide +kernel | exact rfl); (case xk_TooMany => k_is); (case xb_TooMany => k_is); (case xt_TooMany => k_is); (case xq_TooMany => first | kernel_rfl | decide +kernel | exact rfl); (case xna_TooMany_at => k_is); (case xg_TooMany => k_is); (case xf_TooMany => k_is); (case xd_TooMany => k_is); (case xc_TooMany => k_is); (case xm_TooMany => k_is); (case xe_TooMany_TreeError => first | kernel_rfl | decide +kernel | exact rfl); (case xi_TooMany_Held => first | kernel_rfl | decide +kernel | exact rfl); (case xi_TooMany_NoCount => first | kernel_rfl | decide +kernel | exact rfl); (case xi_TooMany_NoDeed => first | kernel_rfl | decide +kernel | exact rfl); (case xi_TooMany_NoMost => first | kernel_rfl | decide +kernel | exact rfl); (case xi_TooMany_NoName => first | kernel_rfl | decide +kernel | exact rfl); (case xi_TooMany_NoPlace => first | kernel_rfl | decide +kernel | exact rfl); (case xi_TooMany_NoRow => first | kernel_rfl | decide +kernel | exact rfl); (case xi_TooMany_NoSpreads => first | kernel_rfl | decide +kernel | exact rfl); (case xi_TooMany_NoStrengths => first | kernel_rfl | decide +kernel | exact rfl); (case xi_TooMany_NoSuch => first | kernel_rfl | decide +kernel | exact rfl); (case xi_TooMany_NoTie => first | kernel_rfl | decide +kernel | exact rfl); (case xi_TooMany_NoTrees => first | kernel_rfl | decide +kernel | exact rfl); (case xi_TooMany_NoWeb => first | kernel_rfl | decide +kernel | exact rfl); (case xi_TooMany_NotHeld => first | kernel_rfl | decide +kernel | exact rfl); (case xi_TooMany_TooMany => first | kernel_rfl | decide +kernel | exact rfl); (case xv_TooMany => first | kernel_rfl | decide +kernel | exact rfl); (case xs0 => k_is); (case xs1 => k_is); (case z0 => k_is); (case z1 => k_is); (case z2 => k_is); (case z3 => k_is); (case z4 => k_is); (case z5 => k_is); (case z6 => k_is); (case z7 => k_is); (case z8 => k_is); (case z9 => k_is); (case z10 => k_is); (case z11 => k_is); (case z12 => k_is); (case z13 => k_is); (case wMOST_PLACES => k_is); (case wMOST_TIES => k_is)

