import PyProof.Rows.All
import Wide.All
import OpenK.AllK
import Wide.FinOn
import HandS.List
import HandS.Comp
import HandS.Ends
import HandS.Dict
import HandS.Iter
import HandS.Words
import PyProof.ReprRoads
import KE.SortData
import KE.DataMinMax
import HandS.GenList
import HandS.GenYield
import HandS.AnyAll
import HandS.JoinGen
import PyProof.TupleOfGen
import KE.GoesMore
import HandS.Style
import KE.KNest
import HandS.EndTab
import HandS.SetFor
import HandS.DictComp
import HandS.Strs
import HandS.SetBool
import HandS.GenOver
import HandS.ForMost
import HandS.More
import HandS.Conv
import HandS.Deep
import HandS.Zip
import HandS.NoneIn
import KE.KTupSum
import HandS.Flow
import KE.Datum
import HandS.IsInst
import HandS.TupAny
import HandS.SortKw
import HandS.WideBits
import HandS.TupMul
import PyProof.TupleOfSeq
import HandS.ExcOwn
import HandS.ExcValue
import PyProof.Rows.SortShell
import HandS.ExcInit
import HandS.ExcSuper
import KE.KExcSuper
import HandS.ExcCtx
import HandS.HotCalls
import HandS.WordsExc
import HandS.FStr
import HandS.ExcIs
import HandS.ExcField
import KE.KExcIs
import HandS.Wide
import KE.GoesZip
import HandS.SetKeys
import HandS.Lambda
import KE.DataMinKey
import HandS.Defaults
import KE.KNestM
import PySem.Challenge.RW_treesapart_k81_numbers_kept
set_option Elab.async false
set_option linter.all false
set_option maxRecDepth 100000
set_option maxHeartbeats 2000000
namespace TA
open PySem PySem.Spec PyProof.Rows L2
structure FnG (P : Program) (w : World) (K : PySem.W.Frag) (mg : Str → Option Value) (b0 : Heap)
    (CX : CXT) (k : Nat) (f : Addr) (fd : FuncData) (ps : List Str) (sp : Sp) : Prop where
  len : ∀ vs H Q E, sp vs H Q E → vs.length = ps.length
  run : ∀ (B : Around) (ou : List Env) (s : Shared) (H : Hp) (ar : Args) (us : List Value) (vs : List V)
    (Q : VK) (E : XK), B.guards = some [] → Room k B → Env0 P w K mg b0 B ou s H →
    BindsTo s fd ar (ps.zip us) → Vals vs us → sp vs H Q E →
    codeAny (model P w) B (.call (.ref f) ar) (CR CX ou P w H s Q E) s
section
variable {P : Program} {w : World} {K : PySem.W.Frag} {mg : Str → Option Value} {b0 : Heap} {CX : CXT}
variable {k : Nat} {f : Addr} {fd : FuncData} {ps : List Str} {sp : Sp}
theorem FnG.of (F : FnOk P w K mg b0 CX k f fd ps sp) : FnG P w K mg b0 CX k f fd ps sp :=
  ⟨F.len, fun B ou s H ar us vs Q E _ => F.run B ou s H ar us vs Q E⟩
theorem FnG.mono {j : Nat} (F : FnG P w K mg b0 CX j f fd ps sp) (h : j ≤ k) : FnG P w K mg b0 CX k f fd ps sp :=
  ⟨F.len, fun B ou s H ar us vs Q E g hr => F.run B ou s H ar us vs Q E g (hr.mono h)⟩
end
section
variable {X : Cx} {CX : CXT} {k : Nat} {f : Addr} {fd : FuncData} {ps : List Str} {sp : Sp} {dvs : List V}
variable {ds : List Value} {E : XK} {x : Str} {p pos : Pos} {e : Expr} {es : List Expr} {t : TA}
theorem run_fnG {pins : List (Addr × Obj)} {σ : L2.St} {H : Hp} {s : Shared} {Q : VK} {us : List Value}
    {vs : List V} (F : FnG X.prog X.w X.K X.mg X.base CX k f fd ps sp) (hg : X.A.guards = some [])
    (hr : Room k X.A) (hb : Binds X.K fd ps ds) (hd : Vals dvs ds) (hx : Passes CX X E)
    (I : Inv X pins σ H s) (r : Vals vs us) (h : sp (vs ++ dvs) H Q E) :
    wpAny (model X.prog X.w) X.A (call (.ref f) us) (EP X pins σ Q) X.xe s := by
  have rr : Vals (vs ++ dvs) (us ++ ds) := r.append hd
  have hl : (us ++ ds).length = ps.length := rr.length ▸ F.len _ _ _ _ h
  have go := F.run X.A X.stack s H ⟨us, []⟩ (us ++ ds) (vs ++ dvs) Q E hg hr I.env0 (hb s us I.kIn hl) rr h
  refine wpAny_call (codeAny_mono go fun z s' hq => ?_)
  match z, hq with
  | .error e, hq => exact hx pins σ H s e s' I hq
  | .ok (.ret u), hq => exact I.after hq
  | .ok .next, hq => exact False.elim hq
  | .ok .brk, hq => exact False.elim hq
  | .ok .cont, hq => exact False.elim hq
theorem pe_callG (F : FnG X.prog X.w X.K X.mg X.base CX k f fd ps sp) (hg : X.A.guards = some [])
    (hr : Room k X.A) (hgl : Gl X x) (hm : X.mg x = some (.ref f)) (hk : PySem.W.keepIn X.K (.ref f) = true)
    (hb : Binds X.K fd ps ds) (hd : Vals dvs ds) (hx : Passes CX X E) (ha : PA X (e :: es) t)
    (hdb : (x == ("__debug__" : Str)) = false := by decide)
    (he : starEach (e :: es) X.env = (false, eval e X.env) :: starEach es X.env := by rfl)
    (hpl : (backTo pos (starEach es X.env)).any (·.1) = false := by rfl) :
    PE X (.Call (.Name x p) (e :: es) [] pos) (tCall sp dvs E t) := by
  refine ⟨fun pins s σ H Q I h => wpAny_Call_Name_kw (ld_glob I hgl hm ?_ hdb)⟩
  have ar := thn (ha.run pos pins s σ H _ I h) fun us s1 (⟨vs, H1, I1, r, q⟩ : AP X pins σ _ us s1) =>
    show s1.heap = s1.heap ∧ (X.K.In s1.heap ∧ wpAny (model X.prog X.w) X.A (call (.ref f) us) (EP X pins σ Q) X.xe s1) from
      ⟨rfl, I1.kIn, run_fnG F hg hr hb hd hx I1 r q⟩
  exact PySem.W.callWith_K (h₀ := X.base) I.ok.mod.kin hk (thn ar fun us s1 z => z.2) he hpl
end
section
variable {P : Program} {w : World} {K : PySem.W.Frag} {mg : Str → Option Value} {b0 : Heap} {CX : CXT}
theorem fnG_of {k : Nat} {f : Addr} {nm qu : Str} {pa : Arguments} {bd : List Stmt} {sc : Scope}
    {dV kV dc pm cd ct oc : Value} {an od : Option Addr} {sl : Array (Option Value)} {N ps : List Str} {sp : Sp}
    (lk : K.lookup f = some ⟨oc, od, .func (PySem.W.fnOf nm qu pa bd sc dV kV dc pm an cd ct), sl⟩)
    (hcd : PySem.W.codeIn K cd qu = true) (S : FnScope N ps sc)
    (len : ∀ vs H Q E, sp vs H Q E → vs.length = ps.length)
    (hb : ∀ (B : Around) (ou : List Env) (s : Shared) (H : Hp) (vs : List V) (Q : VK) (E : XK),
      B.guards = some [] → Room k (B.deeper (envOfC qu sc s.heap.objs.size f cd)) → sp vs H Q E →
      ∃ t, PSs (cxOf CX P w K mg b0 N qu sc f cd B ou s H E) bd t ∧
        t { nx := fun _ H' => Q .non H', rt := Q } (start N vs) H) :
    FnG P w K mg b0 CX (k + 1) f (PySem.W.fnOf nm qu pa bd sc dV kV dc pm an cd ct) ps sp := by
  refine ⟨len, fun B ou s H ar us vs Q E hg hr e0 hbn r hsp => ?_⟩
  have kIn : K.In s.heap := e0.mod.kin.keeps fun b o e => (e0.bs b o e).1
  have nol : s.heap.NoLimit := e0.mod.nolimit.keeps fun b o e => (e0.bs b o e).1
  refine codeAny_call_function hr.depth (kIn _ _ lk) rfl S.co S.gen rfl (PySem.W.codeRec_of kIn hcd) (hbn _ _ _ _ ?_)
  refine wpAny_newFunctionEnv_cells S.kind (fun y hy => ?_) fun env he s1 x => ?_
  · obtain ⟨n, v⟩ := y
    rcases S.par n (List.of_mem_zip hy).1 with q | q
    · exact .inl q
    · exact .inr ⟨q, PySem.W.cellsFrom_some _ _ _ (.inl q)⟩
  subst he
  refine ⟨nol.keeps x.toInCall.keep, codeAny_func ?_⟩
  obtain ⟨t, ht, hq⟩ := hb B ou s H vs Q E hg (hr.deeper _) hsp
  have I := inv_start (CX := CX) (E := E) S hr.hd e0 (len _ _ _ _ hsp) r x
  refine wpAny_mono (ht.run [] s1 (start N vs) H _ I hq) (fun fl s' hs => ?_) fun _ _ hs => hs
  match fl, hs with
  | .ret u, ⟨v, σ', H', J, rv, q⟩ => exact ⟨v, H', J.os, J.bare, J.base, J.hok, rv, q⟩
  | .next, ⟨σ', H', J, q⟩ => exact ⟨V.non, H', J.os, J.bare, J.base, J.hok, rfl, q⟩
  | .brk, ⟨_, _, _, q⟩ => exact False.elim q
  | .cont, ⟨_, _, _, q⟩ => exact False.elim q
theorem FunG.ok {x qu : Str} {st : Stmt} {f : Addr} {fd : FuncData} {N ps : List Str} {k : Nat} {sp : Sp}
    (F : Fun K x qu st f fd) (S : FnScope N ps (defScope st)) (len : ∀ vs H Q E, sp vs H Q E → vs.length = ps.length)
    (hb : ∀ (cd : Value) (B : Around) (ou : List Env) (s : Shared) (H : Hp) (vs : List V) (Q : VK) (E : XK),
      (B.deeper (envOfC qu (defScope st) s.heap.objs.size f cd)).guards = some [] →
      Room k (B.deeper (envOfC qu (defScope st) s.heap.objs.size f cd)) → sp vs H Q E →
      ∃ t, PSs (cxOf CX0 P w K mg b0 N qu (defScope st) f cd B ou s H E).nox (defBody st) t ∧
        t { nx := fun _ H' => Q .non H', rt := Q } (start N vs) H) :
    FnG P w K mg b0 CX0 (k + 1) f fd ps sp := by
  obtain ⟨oc, od, kV, dc, pm, an, cd, ct, sl, rfl, lk, hcd⟩ := F.ex
  refine fnG_of lk hcd S len fun B ou s H vs Q E hg hr hsp => ?_
  obtain ⟨t, h, q⟩ := hb cd B ou s H vs Q E hg hr hsp
  exact ⟨t, h.nox, q⟩
end
structure Shows (d : PyData) : Prop where
  disp : isDisplay d = true
  show_ : d.showable = true
  nodict : d.hasDict = false
  deep : d.depth ≤ 30
  size : d.shown.length ≤ sizeLine
section
variable {X : Cx}
theorem call_reprD (hg : X.A.guards = some []) (hu : X.A.units + 64 < cLine) :
    CallR X (.builtin "repr") (fun xs H Q => ∃ x d, xs = [x] ∧ Dp X.K H x d ∧ Shows d ∧ Q (.str d.shown) H) := by
  intro pins s σ H xs us Q I r h
  obtain ⟨x, d, rfl, hd, S, q⟩ := h
  obtain ⟨u, rfl, ru⟩ := vals1 r
  obtain ⟨as, rd⟩ := Dp.reads I d x u hd ru
  obtain ⟨a, rfl⟩ := isRef_of_reads rd S.disp
  have hdp := S.deep
  refine repr_of_reads' rd S.show_ (PyData.noDict_hsm S.nodict) hg (by omega) (fun _ _ e => e) (fun h' t tk hk => ?_) S.size
  exact ⟨.str _, H, I.kept hk, ⟨_, rfl⟩, q⟩
end
end TA
set_option maxHeartbeats 2000000
namespace TA
open PySem PySem.Spec PyProof.Rows L2
theorem dpAll_ints (K : PySem.W.Frag) (H : Hp) : ∀ ns : List Int, DpAll K H (ns.map V.int) (ns.map PyData.int)
  | [] => .nil
  | n :: ns => .cons (.int n) (dpAll_ints K H ns)
theorem alikeAll_int (ns : List Int) : PySem.W.AlikeAll (ns.map PyData.int) := by
  refine ⟨fun x hx y hy => ?_, fun x hx => ?_⟩
  · obtain ⟨a, _, rfl⟩ := List.mem_map.mp hx
    obtain ⟨b, _, rfl⟩ := List.mem_map.mp hy
    simp [PySem.W.alike]
  · obtain ⟨a, _, rfl⟩ := List.mem_map.mp hx
    intro z
    cases z
theorem reads_int {h : Heap} {v : Value} {n : Int} {as : List Addr} (r : Reads h v (.int n) as) : RelV (.int n) v := by
  cases r with
  | int _ t => exact ⟨t, rfl⟩
def rMinT (K : PySem.W.Frag) : List V → Hp → VK → Prop := fun vs H Q => ∃ (a : Addr) (n : Int) (ns : List Int), vs = [.ref a] ∧ SqT K H a ((n :: ns).map V.int) ∧ Q (.int (ns.foldl min n)) H
def rMaxT (K : PySem.W.Frag) : List V → Hp → VK → Prop := fun vs H Q => ∃ (a : Addr) (n : Int) (ns : List Int), vs = [.ref a] ∧ SqT K H a ((n :: ns).map V.int) ∧ Q (.int (ns.foldl max n)) H
section
variable {X : Cx}
theorem call_minT (hc : X.calm = true) (hu : X.A.units + 64 < cLine) : CallR X (.builtin "min") (rMinT X.K) := by
  intro pins s σ H vs us Q I r h
  obtain ⟨a, n, ns, rfl, hs, q⟩ := h
  obtain ⟨its, rv, ht, _⟩ := I.tuple hs
  rw [Vals.ref1 r]
  obtain ⟨as, rd⟩ := Dp.readsAll I _ _ its (dpAll_ints X.K H (n :: ns)) rv
  refine PySem.W.min_tuple_data (I.ok.hd hc) ht rd (alikeAll_int (n :: ns)) ?_ fun i v h' tk bs _ r' hk => ?_
  · rw [show (PyData.int n :: ns.map PyData.int) = (n :: ns).map PyData.int from rfl, PySem.W.depth_ints]
    omega
  · rw [PySem.W.minD_ints] at r'
    exact ⟨.int _, H, I.kept hk, reads_int r', q⟩
theorem call_maxT (hc : X.calm = true) (hu : X.A.units + 64 < cLine) : CallR X (.builtin "max") (rMaxT X.K) := by
  intro pins s σ H vs us Q I r h
  obtain ⟨a, n, ns, rfl, hs, q⟩ := h
  obtain ⟨its, rv, ht, _⟩ := I.tuple hs
  rw [Vals.ref1 r]
  obtain ⟨as, rd⟩ := Dp.readsAll I _ _ its (dpAll_ints X.K H (n :: ns)) rv
  refine PySem.W.max_tuple_data (I.ok.hd hc) ht rd (alikeAll_int (n :: ns)) ?_ fun i v h' tk bs _ r' hk => ?_
  · rw [show (PyData.int n :: ns.map PyData.int) = (n :: ns).map PyData.int from rfl, PySem.W.depth_ints]
    omega
  · rw [PySem.W.maxD_ints] at r'
    exact ⟨.int _, H, I.kept hk, reads_int r', q⟩
end
end TA
set_option maxHeartbeats 2000000
namespace TA
open PySem PySem.Spec PyProof.Rows L2
structure Fit (d : PyData) (w dp : Nat) : Prop where
  show_ : d.showable = true
  nodict : d.hasDict = false
  short : d.leavesShort 100 = true
  lay : d.canLay0 = true
  wt : d.weight ≤ w
  dpt : d.depth ≤ dp
structure FitAll (ds : List PyData) (w dp : Nat) : Prop where
  show_ : PyData.showableAll ds = true
  nodict : PyData.hasDictAll ds = false
  short : PyData.leavesShortAll 100 ds = true
  lay : PyData.canLayAll0 ds = true
  wt : PyData.weightAll ds ≤ w
  dpt : PyData.depthAll ds ≤ dp
theorem Fit.up {d : PyData} {w w' dp dp' : Nat} (h : Fit d w dp) (hw : w ≤ w') (hd : dp ≤ dp') : Fit d w' dp' := ⟨h.show_, h.nodict, h.short, h.lay, Nat.le_trans h.wt hw, Nat.le_trans h.dpt hd⟩
theorem FitAll.up {d : List PyData} {w w' dp dp' : Nat} (h : FitAll d w dp) (hw : w ≤ w') (hd : dp ≤ dp') : FitAll d w' dp' := ⟨h.show_, h.nodict, h.short, h.lay, Nat.le_trans h.wt hw, Nat.le_trans h.dpt hd⟩
theorem log2_lt {n k : Nat} (hk : 0 < k) (h : n < 2 ^ k) : n.log2 < k := by
  by_cases z : n = 0
  · rw [z]
    simpa using hk
  · exact (Nat.log2_lt z).mpr h
theorem Fit.shows {d : PyData} {w dp : Nat} (h : Fit d w dp) (hd : isDisplay d = true) (hw : w ≤ 160000) (hp : dp ≤ 30) : Shows d := by
  refine ⟨hd, h.show_, h.nodict, Nat.le_trans h.dpt hp, ?_⟩
  have h1 := PyData.shown_le 100 (by decide) d h.short
  have h2 := h.wt
  rw [sizeLine_eq]
  omega
theorem Fit.shaped {d : PyData} {w dp : Nat} (h : Fit d w dp) (hp : dp ≤ 64) : SeqAt.shaped d = true := by
  unfold SeqAt.shaped
  rw [h.lay, decide_eq_true (Nat.le_trans h.dpt hp)]
  rfl
abbrev rowD (ns : List Int) : PyData := .list (ns.map .int)
theorem eqv_int (a b : Int) : PyData.eqv (.int a) (.int b) = decide (a = b) := by
  simp only [PyData.eqv]
  by_cases h : a = b
  · rw [h]; simp
  · rw [decide_eq_false h]; simpa using h
theorem eqvAll_int : ∀ xs ys : List Int, PyData.eqvAll (xs.map .int) (ys.map .int) = decide (xs = ys)
  | [], [] => by simp [PyData.eqvAll]
  | [], _ :: _ => by simp [PyData.eqvAll]
  | _ :: _, [] => by simp [PyData.eqvAll]
  | x :: xs, y :: ys => by
    show PyData.eqvAll (.int x :: xs.map .int) (.int y :: ys.map .int) = _
    rw [PyData.eqvAll, eqvAll_int xs ys, eqv_int]
    by_cases h : x = y
    · subst h
      simp
    · rw [decide_eq_false h, decide_eq_false (fun e => h (List.cons.inj e).1)]
      rfl
theorem eqv_row (xs ys : List Int) : PyData.eqv (rowD xs) (rowD ys) = decide (xs = ys) := by
  simp only [PyData.eqv]
  exact eqvAll_int xs ys
end TA
set_option maxHeartbeats 2000000
namespace TA
open PySem PySem.Spec PyProof.Rows L2
theorem over_gx {A : Around} {elt : Expr} {gens : List Comprehension} {scope : Scope} {pos : Pos} {it acc : Value} {cenv : Env} :
    A.over (.compLoop (.GeneratorExp elt gens scope pos) 0 it acc cenv) [] = A.deeper cenv := by
  first
    | rfl
    | (obtain ⟨hd, d, fr, gs, u⟩ := A; simp [Around.over, Around.deeper, marksOver, frameCount, unitsOf, envsOf, guardsOf, pushEnvs, pushGuards, Code.envs, Code.env?, Code.isFrame, Code.guards, Code.isGuard, Code.weight, Code.frames, Code.isCreation, Code.isCaller, Code.cUnits])
structure GxOk (N : List Str) (sc scope : Scope) (own : List (Str × Nat)) : Prop where
  blk : BlkOk N sc scope own
  co : scope.isCoroutine = false
  cell : ∀ y ∈ scope.names, y.2 ≠ .cell
  dot : scope.names.lookup (".0" : Str) = some NameKind.local
def gxC (N : List Str) (sc scope : Scope) (own : List (Str × Nat)) : Bool :=
  blkC N sc scope own && !scope.isCoroutine && scope.names.all (fun y => !(y.2 == .cell)) && (scope.names.lookup (".0" : Str) == some NameKind.local)
theorem gxOk_by {N : List Str} {sc scope : Scope} {own : List (Str × Nat)} (h : gxC N sc scope own = true) : GxOk N sc scope own := by
  unfold gxC at h
  simp only [Bool.and_eq_true, List.all_eq_true, Bool.not_eq_true', beq_iff_eq] at h
  obtain ⟨⟨⟨h1, h2⟩, h3⟩, h4⟩ := h
  refine ⟨blkOk_by h1, h2, fun y hy e => ?_, h4⟩
  have := h3 y hy
  rw [e] at this
  exact absurd this (by decide)
abbrev gxCx (X : Cx) (A : Around) (s : Shared) (H : Hp) (cenv : Env) (fp : List Addr) (pn : List (Addr × Obj)) : Cx :=
  { X with A := A.deeper cenv, s_0 := s, H_0 := H, env := cenv, outer := X.stack, stack := cenv :: X.stack, ex := fp, fn := fun _ => false, calm := true, pn := pn, xe := fun _ _ => False }
section
variable {X : Cx} {pins : List (Addr × Obj)} {σ : L2.St} {H : Hp} {s : Shared}
abbrev gxEnv (X : Cx) (scope : Scope) (C : Addr) (code : Value) : Env := genEnv scope (cloFrom X.env.cells scope.names []) C code builtinsNs X.env
theorem gx_start {scope : Scope} {own : List (Str × Nat)} {fp : List Addr} {A : Around} {code itv : Value} {s2 : Shared} {pn pw : List (Addr × Obj)} (I : Inv X pins σ H s) (ok : GxOk X.N X.env.scope scope own) (hN : X.N.Nodup) (hfp : ∀ b ∈ fp, FpOk X pins H b ∧ b < s.heap.objs.size)
    (hd : A.handled = none) (hfr : A.frames = some X.stack) (hos : s2.os = s.os) (hb : AllBare s2.gens) (hns : s2.heap.Ns s.heap.objs.size (fun y => if y = ".0" then some itv else none)) (kp : ∀ b o, s.heap.get? b = some o → s2.heap.get? b = some o)
    (hpn : ∀ p ∈ pn ++ pw, s2.heap.get? p.1 = some p.2 ∧ s.heap.objs.size < p.1 ∧ ∀ v, p.2.data ≠ .cell v) :
    Inv (gxCx X A s H (gxEnv X scope s.heap.objs.size code) fp pn) pw (wipe σ (own.map (·.2))) H s2 := by
  have hfree : ∀ y ∈ scope.names, y.2 = .free → ∃ c, X.env.cells.lookup y.1 = some c := fun y hy e => by
    rcases ok.blk.free y hy e with k | k
    · exact I.ok.has _ (.inl k)
    · exact I.ok.has _ (.inr k)
  have cm : ∀ {y c}, (y, c) ∈ cloFrom X.env.cells scope.names [] → X.env.cells.lookup y = some c ∧ c < s.heap.objs.size := fun {y c} hm => by
    rcases cloFrom_mem hm with hm | ⟨h1, rfl⟩
    · cases hm
    · obtain ⟨c, hc⟩ := hfree _ h1 rfl
      rw [hc]
      obtain ⟨w, z⟩ := I.cell _ _ hc
      exact ⟨rfl, z.lt⟩
  have mem : ∀ {y c}, (cloFrom X.env.cells scope.names []).lookup y = some c → X.env.cells.lookup y = some c ∧ c < s.heap.objs.size := fun {y c} e => cm (PySem.mem_of_lookup e)
  have look : ∀ {y}, scope.names.lookup y = some .free → ∃ c, (cloFrom X.env.cells scope.names []).lookup y = some c ∧ X.env.cells.lookup y = some c := fun {y} hl => by
    obtain ⟨c', e'⟩ := mem_lookup (cloFrom_has (cells := X.env.cells) (acc := []) (PySem.mem_of_lookup hl))
    exact ⟨c', e', (mem e').1⟩
  have okG : (gxCx X A s H (gxEnv X scope s.heap.objs.size code) fp pn).Ok := by
    refine ⟨I.ok.mod, ok.blk.kind, I.ok.glob, rfl, Nat.le_refl _, fun y z c e1 e2 => I.ok.inj y z c (mem e1).1 (mem e2).1, fun y hy => ?_, fun y c z e => (by cases z), fun _ => hd, Around.frames_deeper hfr, .inr ⟨rfl, rfl⟩,
      fun b hb => ⟨Nat.ne_of_lt (hfp b hb).2, fun y c e z => (hfp b hb).1.2.2.2.2.1 y c (mem e).1 z⟩, I.bs, Nat.le_trans I.ok.bsz I.sz, fun b o e hb => ?_, fun b hb z => ?_, I.stack, I.stkFree⟩
    · have key : ∀ k, scope.names.lookup y = some k → (k = .cell ∨ k = .free) → ∃ c, (cloFrom X.env.cells scope.names []).lookup y = some c := fun k hk hk' => by
        rcases hk' with rfl | rfl
        · exact absurd rfl (ok.cell _ (PySem.mem_of_lookup hk))
        · obtain ⟨c, h1, _⟩ := look hk
          exact ⟨c, h1⟩
      rcases hy with hy | hy
      · exact key _ hy (.inl rfl)
      · exact key _ hy (.inr rfl)
    · rcases (hfp b hb).1.2.2.2.1 with z | z
      · exact I.ok.noex b o e z
      · exact absurd (Nat.lt_of_lt_of_le (Heap.lt_size e) (Nat.le_trans I.ok.bsz z)) (Nat.lt_irrefl _)
    · rcases List.mem_cons.mp (I.stkSub b z) with z | z
      · exact (hfp b hb).1.2.1 z
      · exact (hfp b hb).1.2.2.1 z
  refine ⟨okG, hos, hb, Un.kept kp, ⟨_, hns, fun i y av e1 e2 e3 => ?_⟩, fun y c e => ?_, I.hok.fresh (Nat.le_refl _), fun y c e => I.freeC y c (mem e).1, fun p hp => ?_, I.hok.kept kp, by rw [wipe_length]; exact I.len⟩
  · obtain ⟨e2, hne⟩ := wipe_some e2
    have no : ∀ k, scope.names.lookup y = some k → ¬ (k = .local ∨ k = .cell) := fun k hk hh => by
      rcases ok.blk.own _ (PySem.mem_of_lookup hk) hh with e' | e'
      · obtain ⟨p, hp, hpy⟩ := List.mem_map.mp e'
        have e3 := ok.blk.ix p hp
        have : p.1 = y := hpy
        rw [this] at e3
        exact hne (List.mem_map.mpr ⟨p, hp, nodup_ix hN e3 e1⟩)
      · exact e' (List.mem_of_getElem? e1)
    have hfr : scope.names.lookup y = some .free := by
      have e3 : Vis scope y := e3
      rcases e3 with e3 | e3 | e3
      · exact absurd (.inl rfl) (no _ e3)
      · exact absurd (.inr rfl) (no _ e3)
      · exact e3
    obtain ⟨m, hn, hl⟩ := I.loc
    have hvis : Vis X.env.scope y := (ok.blk.free _ (PySem.mem_of_lookup hfr) rfl).elim (fun k => .inr (.inl k)) (fun k => .inr (.inr k))
    obtain ⟨w, r, q⟩ := hl i y av e1 e2 hvis
    refine ⟨w, r, .inr ⟨.inr hfr, ?_⟩⟩
    obtain ⟨c, h1, h2⟩ := look hfr
    rcases q with ⟨k, _⟩ | ⟨_, c', e', z⟩
    · have k : X.env.scope.names.lookup y = some .local := k
      rcases ok.blk.free _ (PySem.mem_of_lookup hfr) rfl with k' | k' <;> rw [show X.env.scope.names.lookup y = _ from k'] at k <;> cases k
    · rw [h2] at e'
      cases e'
      exact ⟨c, h1, z.keeps kp⟩
  · obtain ⟨w, z⟩ := I.cell y c (mem e).1
    exact ⟨w, z.keeps kp⟩
  · obtain ⟨h1, h2, h3⟩ := hpn p hp
    have hge : s.heap.objs.size ≤ p.1 := Nat.le_of_lt h2
    refine ⟨h1, I.hok.fresh hge, Nat.ne_of_gt h2, fun hm => ?_, h3⟩
    rcases List.mem_cons.mp (I.stkSub p.1 hm) with z | z
    · rw [z] at hge
      exact absurd (Nat.lt_of_lt_of_le I.lt hge) (Nat.lt_irrefl _)
    · exact I.nofs hge z
end
def GxTurn (J : It) (g : TG) (tt : TT) (te : TE) (vs : List Nat) (σw : L2.St) (W : Nat → Nat → List V → Hp → Prop) (Qc : List V → Hp → Prop) : Prop :=
  ∀ i m ys H, W i m ys H → (J.stop i H ∧ Qc ys H) ∨ (J.go i H ∧ ∃ Nx : List V → Hp → Prop, (∀ ys' H', Nx ys' H' → ∃ m', m' < m ∧ W (i + 1) m' ys' H') ∧
    ∀ x H', J.yld i H x H' → g x σw H' fun σ2 H2 => wipe σ2 vs = σw ∧ tt σ2 H2 fun b H3 => if b = true then te σ2 H3 fun y H4 => ys.length < sizeLine ∧ Nx (ys ++ [y]) H4 else Nx ys H3)
section
variable {Y : Cx} {A : Around} {elt tg iter : Expr} {ifs : List Expr} {scope : Scope} {gpos : Pos} {fp : List Addr} {it S a : Addr} {gn : Nat} {tn : Nat → Heap → Prop} {J : It} {g : TG} {tt : TT} {te : TE} {vs : List Nat} {σw : L2.St}
theorem gx_loop {W : Nat → Nat → List V → Hp → Prop} {Qc : List V → Hp → Prop} {E : XK} (hA : A.over (.compLoop (.GeneratorExp elt [⟨tg, iter, ifs, 0⟩] scope gpos) 0 (.ref it) .none Y.env) [] = Y.A) (hc : Y.calm = true) (hxe : Y.xe = fun _ _ => False)
    (hco : Y.env.scope.isCoroutine = false) (T : Turn Y.prog Y.w Y.K tg J fp it tn) (pg : PG Y tg g) (pt : PTs Y ifs tt) (pe : PE Y elt te) (apart : Apart Y S) (hpnS : ∀ p ∈ Y.pn, p.1 ≠ S) (hfpS : ∀ b ∈ fp, b ≠ S) (hex : ∀ b ∈ fp, b ∈ Y.ex) (hpf : ∀ p ∈ Y.pn, ∀ b ∈ fp, p.1 ≠ b)
    (hgen : ∀ {pins : List (Addr × Obj)} {σ : L2.St} {H : Hp} {s : Shared}, Inv Y pins σ H s → s.heap.IsGen a gn) (turn : GxTurn J g tt te vs σw W Qc) :
    ∀ (m i : Nat) (ys : List V) (n : Nat) (s₀ s : Shared) (H : Hp), n + ys.length = sizeLine → GI Y S [] ys σw H s → tn i s.heap → (∀ b ∈ fp, H b = none) → W i m ys H →
      Seg (model Y.prog Y.w) A (REnd Y.prog Y.w Y.outer Y.H_0 Y.s_0 Y.ex S a gn Qc E) (YItem Y.s_0 S a gn) n s₀
        (.compLoop (.GeneratorExp elt [⟨tg, iter, ifs, 0⟩] scope gpos) 0 (.ref it) .none Y.env) ((model Y.prog Y.w).den (.compLoop (.GeneratorExp elt [⟨tg, iter, ifs, 0⟩] scope gpos) 0 (.ref it) .none Y.env)) [] s := by
  intro m
  induction m using Nat.strongRecOn with
  | ind m ih =>
    intro i ys n s₀ s H hn hI st nfp w
    have stat : ∀ {acc : Array Value} {c : Nat} {σ' : L2.St} {H' : Hp} {s' : Shared}, Inv Y [(S, lstObj acc c)] σ' H' s' → (∀ b ∈ fp, H' b = none) → ∀ b ∈ fp, FpOk Y [(S, lstObj acc c)] H' b := fun {acc c σ' H' s'} I' hn b hb =>
      ⟨hn b hb, (I'.ok.exf b (hex b hb)).1, I'.ok.exfs b (hex b hb), .inl (hex b hb), fun x c e => (I'.ok.exf b (hex b hb)).2 x c e, fun p hp => by
        rcases List.mem_append.mp hp with z | z
        · exact hpf p z b hb
        · rw [List.mem_singleton.mp z]
          exact fun e => hfpS b hb e.symm⟩
    obtain ⟨acc, cc, rv, I⟩ := hI
    show Seg _ A _ _ _ s₀ _ ((compTurn (.GeneratorExp elt [⟨tg, iter, ifs, 0⟩] scope gpos) 0 (.ref it) .none Y.env).onRaise (leaving Y.env)) [] s
    rw [compTurn_gen, Sem.onRaise_eq_wrap]
    refine seg_bind_wrap (wpAny_standAt ?_)
    rcases turn i m ys H w with ⟨stop, qq⟩ | ⟨go, Nx, hNx, step⟩
    · have td := T.done Y rfl rfl rfl hc i _ s _ H (fun _ _ => False) I (stat I nfp) st stop
      refine seg_bind_wrap ?_
      rw [hA]
      refine thnF td fun r s6 ⟨hr, I6⟩ => ?_
      subst hr
      refine seg_end (.ok .next) (.inl ⟨.inr rfl, H, ys, acc, cc, I6.os, I6.bare, I6.base, I6.hok, ?_, ?_, rv, by omega, qq⟩)
      · exact (I6.pin (S, lstObj acc cc) (List.mem_append_right _ List.mem_cons_self)).2.1
      · exact (I6.pin (S, lstObj acc cc) (List.mem_append_right _ List.mem_cons_self)).1
    · have ti := T.item Y rfl rfl rfl hc i _ s _ H (fun _ _ => False) I (stat I nfp) st go
      refine seg_bind_wrap ?_
      rw [hA]
      refine thnF ti fun r s6 ⟨u, hr, h6⟩ => ?_
      subst hr
      refine seg_bind_wrap ?_
      rw [hA]
      refine thnF h6 fun _ s7 ⟨x, H7, I7, r7, y7, st7, n7⟩ => ?_
      have I7' := I7.pinned (stat I7 n7) (T.obj _ _ st7)
      refine seg_bind_wrap ?_
      rw [hA]
      have pgr := pg.run _ s7 _ H7 x u _ I7' r7 (step x H7 y7)
      rw [hxe] at pgr
      refine thnF pgr fun _ s8 ⟨σ8, H8, I8, hw8, q8⟩ => ?_
      refine seg_bind_wrap ?_
      rw [hA]
      have ptr := pt.run _ s8 σ8 H8 _ I8 q8
      rw [hxe] at ptr
      refine thnF ptr fun b s9 ⟨H9, I9, q9⟩ => ?_
      have fin : ∀ {zs : List V} {s' : Shared} {H' : Hp}, GI Y S (pinsAt fp s7.heap) zs σ8 H' s' → GI Y S [] zs σw H' s' ∧ tn (i + 1) s'.heap ∧ ∀ b ∈ fp, H' b = none := fun {zs s' H'} hG => by
        obtain ⟨acc', cc', rv', I'⟩ := hG
        have pin' : ∀ b ∈ fp, ∀ o, s7.heap.get? b = some o → s'.heap.get? b = some o ∧ H' b = none := fun b hb o e =>
          let z := I'.pin (b, o) (List.mem_append_right _ (List.mem_cons_of_mem _ (mem_pinsAt hb e)))
          ⟨z.1, z.2.1⟩
        have hl : σw.length = σ8.length := by rw [← hw8, wipe_length]
        refine ⟨⟨acc', cc', rv', ((I'.pins_of fun p hp => I'.pin p (List.mem_append_right _ (by rw [List.mem_singleton.mp hp]; exact List.mem_cons_self))).weak hl fun j v e => ?_)⟩, T.keep _ _ _ st7 fun b hb o e => (pin' b hb o e).1, fun b hb => ?_⟩
        · rw [← hw8] at e
          exact (wipe_some e).1
        · obtain ⟨o, e, _⟩ := T.obj _ _ st7 b hb
          exact (pin' b hb o e).2
      cases b with
      | false =>
        simp only [Bool.false_eq_true, if_false] at q9 ⊢
        obtain ⟨m', hm, w'⟩ := hNx ys H9 q9
        obtain ⟨g1, g2, g3⟩ := fin ⟨acc, cc, rv, I9⟩
        exact seg_again rfl (ih m' hm (i + 1) ys n s₀ _ H9 hn g1 g2 g3 w')
      | true =>
        simp only [if_true] at q9 ⊢
        have hy : ∀ v, yieldOut Y.env v = yieldValue v := fun v => by simp only [yieldOut, hco, Bool.false_eq_true, if_false]
        simp only [hy]
        rw [Sem.bind_eq_wrap', Sem.bind_eq_wrap', Sem.wrap_wrap, Sem.wrap_wrap]
        refine seg_wrap ?_
        rw [hA]
        have per := pe.run _ s9 σ8 H9 _ I9 q9
        rw [hxe] at per
        refine thnF per fun z s10 ⟨yv, H10, I10, r10, hlt, nx⟩ => ?_
        obtain ⟨n', rfl⟩ : ∃ n', n = n' + 1 := ⟨n - 1, by omega⟩
        have G10 : GI Y S (pinsAt fp s7.heap) ys σ8 H10 s10 := ⟨acc, cc, rv, I10⟩
        obtain ⟨m', hm, w'⟩ := hNx (ys ++ [yv]) H10 nx
        have hS10 := (I10.pin (S, lstObj acc cc) (List.mem_append_right _ List.mem_cons_self)).1
        have hacc : acc.size = ys.length := by rw [rv.length, Array.length_toList]
        refine seg_at (seg_yield rfl rfl rfl ⟨I10.os, I10.bare, I10.nolimit, hgen I10, ⟨acc, cc, hS10, by omega⟩, fun s'' zz => ?_⟩)
        have G11 := G10.woken hpnS (fun p hp => hfpS _ (of_pinsAt hp).1) apart r10 zz
        obtain ⟨g1, g2, g3⟩ := fin G11
        refine seg_again rfl (ih m' hm (i + 1) (ys ++ [yv]) n' s'' s'' H10 ?_ g1 g2 g3 w')
        rw [List.length_append, List.length_singleton]
        omega
end
end TA
set_option maxHeartbeats 4000000
namespace TA
open PySem PySem.Spec PyProof.Rows L2
open GxR (TabB TabG Tabbed)
def tGx (P : Addr) (wi : TI) (g : TG) (tt : TT) (te : TE) (vs : List Nat) : L2.St → Hp → (List V → Hp → Prop) → Prop := fun σ H Qc =>
  wi σ H fun J H1 => TabG H1 P ∧ ∀ H2, Tabbed P H1 H2 → ∃ W : Nat → Nat → List V → Hp → Prop, (∃ m, W 0 m [] H2) ∧ GxTurn J g tt te vs (wipe σ vs) W Qc
end TA
set_option maxHeartbeats 4000000
namespace TA
open PySem PySem.Spec PyProof.Rows L2
theorem collect_gm {P : Program} {w : World} {ou : List Env} {H : Hp} {sc s : Shared} {ex : List Addr} {Qc : List V → Hp → Prop} {B : Around} {k : Nat} {u : Value} {Q' : List Value → Shared → Prop} {E : Value → Shared → Prop}
    (hr : Room k B.in1.in1) (hd : B.depth < recursionLimit) (hfr : B.frames = some ou) (h : GMade P w k ou H sc ex Qc E0 u s)
    (hQ : ∀ (s' : Shared) (acc : Array Value) (H' : Hp) (ys : List V), Vals ys acc.toList → ys.length ≤ sizeLine → s'.os = sc.os → AllBare s'.gens → Un (frs ou) ex H H' sc.heap s'.heap → HOk P w H' s'.heap → Qc ys H' → Q' acc.toList s') :
    wpAny (model P w) B (collect u) Q' E s := by
  obtain ⟨a, g, c, rfl, ha1, ha2, hg, hgs, hos, hb, hl, hkp, wake⟩ := h
  have hSa : s.heap.objs.size ≠ a := Nat.ne_of_gt ha2
  have hcl : cStatics < s.heap.objs.size := let ⟨_, hn, _⟩ := hl; hn.lt
  have hSc : s.heap.objs.size ≠ cStatics := Nat.ne_of_gt hcl
  unfold collect
  refine wpAny_bind (wpAny_runValue (codeAny_builtin F.entry_proto_collect ?_))
  rw [Around.under_plainId F.plain_proto_collect _]
  show wpAny _ B.in1 (newList [] >>= fun l => again (.builtin "list.__iadd__" ⟨[l, .ref a], []⟩)) _ _ s
  refine wpAny_bind (wpAny_newObj_type ?_)
  refine wpAny_pure ⟨plainId_quiet F.plain_list_iadd _, codeAny_builtin F.entry_list_iadd ?_⟩
  rw [Around.under_plainId F.plain_list_iadd _]
  show wpAny _ B.in1 (Builtin.List.listExtendWith (.ref s.heap.objs.size) (.ref a) (.ref s.heap.objs.size)) _ _ _
  have up : ∀ (h : Heap) (f : Obj → Obj), (∀ b o, s.heap.get? b = some o → h.get? b = some o) → ∀ b o, s.heap.get? b = some o → (h.update s.heap.objs.size f).get? b = some o := fun h f q b o e =>
    (Heap.get?_update_other _ _ (Ne.symm (Nat.ne_of_lt (Heap.lt_size e)))).trans (q b o e)
  have k1 : ∀ b o, s.heap.get? b = some o → (s.heap.push { cls := .type "list", data := .seq ([] : List Value).toArray }).get? b = some o := fun b o e => Heap.get?_push_of_some _ e
  have gty : ∀ {h : Heap}, (∀ b o, s.heap.get? b = some o → h.get? b = some o) → h.IsGen a g := fun {h} q => hg.keeps q
  unfold Builtin.List.listExtendWith
  refine wpAny_bind (wpAny_typeOf (Heap.IsGen.typeIs (s := { s with heap := _ }) (gty k1)) ?_)
  have h1 : Builtin.List.listSameRef (.ref s.heap.objs.size) (.ref a) = false := by simp [Builtin.List.listSameRef, hSa]
  have h2 : (Value.type "generator" == Value.type "list") = false := by decide
  have h3 : (Value.type "generator" == Value.type "tuple") = false := by decide
  simp only [h1, h2, h3, Bool.or_false, Bool.false_eq_true, if_false]
  refine wpAny_bind (wpAny_pyIter_gen (s := { s with heap := _ }) (gty k1) ?_)
  refine wpAny_bind (wpAny_holding ?_)
  unfold Builtin.List.listLengthHint
  refine wpAny_bind (wpAny_specialOf (Heap.IsGen.typeIs (s := { s with heap := _ }) (gty k1)) F.gen_no_len ?_)
  show wpAny _ B.in1 (specialOf (Value.ref a) (Str.ofString "__length_hint__") >>= _) _ _ _
  refine wpAny_bind (wpAny_specialOf (Heap.IsGen.typeIs (s := { s with heap := _ }) (gty k1)) F.gen_no_hint ?_)
  refine wpAny_pure ?_
  show wpAny _ B.in1 (rule "list.extend.makes-room" >>= fun _ => Builtin.List.listTouch (.ref s.heap.objs.size) >>= fun _ =>
    again (.builtin "list.extend.loop" ⟨[.ref s.heap.objs.size, .ref a, .ref s.heap.objs.size], []⟩)) _ _ _
  refine wpAny_bind (wpAny_rule ?_)
  have hS1 : (s.heap.push { cls := .type "list", data := .seq ([] : List Value).toArray }).get? s.heap.objs.size = some { cls := .type "list", data := .seq ([] : List Value).toArray } := Heap.get?_push_size _ rfl
  refine wpAny_bind ?_
  show wpAny _ B.in1 (updateSeq s.heap.objs.size (·.push .none) >>= fun _ => updateSeq s.heap.objs.size (·.pop)) _ _ _
  refine wpAny_bind (wpAny_updateSeq hS1 rfl ?_)
  have hS2 := Heap.get?_update_self (Obj.mapSeq (·.push Value.none)) hS1 rfl
  refine wpAny_updateSeq hS2 rfl ?_
  have hS3 := Heap.get?_update_self (Obj.mapSeq (·.pop)) hS2 rfl
  have k3 := up _ (Obj.mapSeq (·.pop)) (up _ (Obj.mapSeq (·.push Value.none)) k1)
  refine wpAny_pure ⟨plainId_quiet F.plain_extend_loop _, ?_⟩
  refine drain (P := P) (w := w) (outer := ou) (H := H) (sc := sc) (ex := ex) (Q := Qc) (EX := E0) (A := B) (g := g) hr.hd hd hSa hSc
    (fun s' acc c' H' ys q1 q2 q3 q4 q5 q6 q7 q8 q9 => ?_) (fun e s' hc => ?_) sizeLine _ (gty k3) (hl.keeps k3) ⟨_, hgs, rfl, ?_⟩
  · show wpAny _ B (load s.heap.objs.size >>= _) _ _ s'
    refine wpAny_bind (wpAny_load q1 ?_)
    exact wpAny_pure (hQ s' acc H' ys q2 q3 q4 q5 q6 q7 q9)
  · obtain ⟨_, _, _, _, _, _, _, _, _, _, _, _, z⟩ := hc
    exact z.elim
  · exact wake _ _ _ hr hfr (Nat.le_refl _) k3 ⟨_, hS3⟩ hos (allBare_setGen (s := { s with heap := _ }) hb rfl)
theorem Room.in4 {k : Nat} {A : Around} (r : Room (k + 1) A) : Room k A.in1.in1.in1.in1 :=
  ⟨r.hd, by have := r.dp; show A.depth + 3 * k + 5 < _; omega, by have := r.un; show A.units + 1 + 1 + 1 + 1 + 16 * k + 200 < _; omega⟩
section
variable {P : Program} {w : World} {ou : List Env} {H : Hp} {sc s : Shared} {ex : List Addr} {Qc : List V → Hp → Prop} {k : Nat} {u : Value} {E : Value → Shared → Prop}
theorem code_tuple_gm {B : Around} {Q1 : Value → Shared → Prop} (hr : Room k B.in1.in1.in1) (hd : B.depth < recursionLimit) (hfr : B.frames = some ou) (h : GMade P w k ou H sc ex Qc E0 u s)
    (hQ : ∀ (s' : Shared) (acc : Array Value) (H' : Hp) (ys : List V), Vals ys acc.toList → ys.length ≤ sizeLine → s'.os = sc.os → AllBare s'.gens → Un (frs ou) ex H H' sc.heap s'.heap → HOk P w H' s'.heap → Qc ys H' →
      Q1 (.ref s'.heap.objs.size) { s' with heap := s'.heap.push { cls := .type "tuple", data := .seq acc } }) :
    codeAny (model P w) B (.call (.builtin "tuple.__new__") ⟨[.type "tuple", u], []⟩) (wants Q1 E) s := by
  have hG := h
  obtain ⟨a, g, c, rfl, _, _, hg, _⟩ := h
  refine codeAny_of_tree ?_
  show wpAny _ B.in1 (do checkBuiltinCall "tuple.__new__" ⟨[.type "tuple", .ref a], []⟩; again (.builtin "tuple.__new__" ⟨[.type "tuple", .ref a], []⟩)) _ _ s
  refine wpAny_bind (wpAny_of_eq (F.newCall_tuple_1 _) (wpAny_pure ⟨plainId_quiet F.plain_tuple_new _, codeAny_builtin F.entry_tuple_new ?_⟩))
  rw [Around.under_plainId F.plain_tuple_new _]
  have hsub := sub_tuple_self
  have hinit := init_tuple_lookup
  have hmh := madeHere_tuple
  have hTI : s.TypeIs (.ref a) "generator" := hg.typeIs
  wp_walk using wpAny_typeOf hTI, collect_gm (B := B.in1) hr hd hfr hG
  intro s' acc H' ys q1 q2 q3 q4 q5 q6 q7
  show wpAny _ _ (Builtin.Tuple.tupleExact acc.toList.toArray >>= fun v => ret v) _ _ _
  unfold Builtin.Tuple.tupleExact
  refine wpAny_bind (wpAny_newObj_type ?_ (by show acc.toList.toArray.size ≤ sizeLine; rw [List.size_toArray, ← q1.length]; exact q2))
  refine wpAny_pure ?_
  have e : acc.toList.toArray = acc := by simp
  rw [e]
  exact hQ s' acc H' ys q1 q2 q3 q4 q5 q6 q7
theorem call_tuple_gm {A : Around} {Q' : Value → Shared → Prop} (hr : Room (k + 1) A) (hfr : A.frames = some ou) (h : GMade P w k ou H sc ex Qc E0 u s)
    (hQ : ∀ (s' : Shared) (acc : Array Value) (H' : Hp) (ys : List V), Vals ys acc.toList → ys.length ≤ sizeLine → s'.os = sc.os → AllBare s'.gens → Un (frs ou) ex H H' sc.heap s'.heap → HOk P w H' s'.heap → Qc ys H' →
      Q' (.ref s'.heap.objs.size) { s' with heap := s'.heap.push { cls := .type "tuple", data := .seq acc } }) :
    wpAny (model P w) A (call (.type "tuple") [u]) Q' E s := by
  have hd := hr.depth
  have hr4 := Room.in4 hr
  obtain ⟨a, g, c, rfl, r⟩ := id h
  refine callType_codes (Q₁ := fun obj s₁ => s₁.TypeIs obj "tuple" ∧ Q' obj s₁) F.called_tuple (F.typeCall_tuple_1 _) F.entry_object_init
    (code_tuple_gm (B := A.in1) hr4 hd hfr h fun s' acc H' ys q1 q2 q3 q4 q5 q6 q7 => ⟨⟨_, Heap.get?_push_size _ rfl, rfl⟩, hQ s' acc H' ys q1 q2 q3 q4 q5 q6 q7⟩) fun obj s₁ h₁ => ?_
  exact ⟨h₁.1, F.args_object_init_2 obj _, object_init_meets F.called_tuple.init.lookup F.called_tuple.made (by decide) P w A.in1 _ s₁ ⟨h₁.1, rfl, h₁.2⟩⟩
end
section
variable {X : Cx} {k : Nat} {p pos : Pos}
theorem Inv.drained0 {pins : List (Addr × Obj)} {σ : L2.St} {H H' : Hp} {sc s' : Shared} {ex : List Addr} (I : Inv X pins σ H sc) (hex : ExOk X pins ex) (os : s'.os = sc.os) (hb : AllBare s'.gens) (un : Un (frs X.stack) ex H H' sc.heap s'.heap) (hok : HOk X.prog X.w H' s'.heap) : Inv X pins σ H' s' :=
  I.call' (ch := ex) os un hok hb hex
def tTupG (tg : TGen) : TE := fun σ H Q => tg σ H fun out H2 => ∀ q, H2 q = none → Q (.ref q) (upd H2 q (.tup out))
theorem pe_tupGx {e : Expr} {tg : TGen} (h : PGen X k e tg E0) (hr : Room (k + 1) X.A) (hg : Gl X "tuple") (hmg : X.mg "tuple" = none)
    (he : starEach [e] X.env = (false, eval e X.env) :: starEach [] X.env := by rfl) : PE X (.Call (.Name "tuple" p) [e] [] pos) (tTupG tg) := by
  refine ⟨fun pins s σ H Q I hq => ?_⟩
  refine wpAny_Call_Name_kw (ld_blt I hg hmg boot_tuple ?_ (by decide) (by decide))
  refine PyProof.Rows.callWith_type1 ?_ he rfl
  rw [he]
  show wpAny _ _ (spliced ((false, eval e X.env) :: backTo pos (starEach [] X.env))) _ _ s
  refine Calls.spliced_cons (thn (h.run pins s σ H _ I hq) fun u s1 ⟨H1, sc, ex, I1, hex, hG⟩ => ?_)
  refine Calls.spliced_nil ?_
  refine call_tuple_gm hr I1.ok.frames hG fun s' acc H' ys q1 q2 q3 q4 q5 q6 q7 => ?_
  have J := Inv.drained0 I1 hex q3 q4 q5 q6
  refine ⟨.ref s'.heap.objs.size, upd H' s'.heap.objs.size (.tup ys), J.laid (t' := s'.toks) (fun b o e => Heap.get?_push_of_some _ e) (Nat.le_refl _) ⟨q2, acc.toList, q1, ⟨_, Heap.get?_push_size _ rfl, rfl, _, by simp; rfl⟩⟩, rfl, q7 _ (J.hok.fresh (Nat.le_refl _))⟩
end
end TA
set_option maxHeartbeats 4000000
namespace TA
open PySem PySem.Spec PyProof.Rows L2
open AutoSeq1 (wpAny_loadPart')
end TA
set_option maxHeartbeats 4000000
namespace TA
open PySem PySem.Spec PyProof.Rows L2
end TA
set_option maxHeartbeats 4000000
namespace TA
open PySem PySem.Spec PyProof.Rows L2
open GxR (TabB TabG Tabbed)
end TA
set_option maxHeartbeats 4000000
namespace TA
open PySem PySem.Spec PyProof.Rows L2
open GxR (TabB TabG Tabbed)
def Kinds (K : PySem.W.Frag) (cs : List (Addr × Addr)) (a : Addr) (H : Hp) : Prop :=
  ∀ b u, H b = some u → (b = a ∧ K.lookup a = none ∧ ∃ o xs, u = .frz o (.lst xs)) ∨ (u = .tbl #[] ∧ ∃ p ∈ cs, b = p.2)
end TA
set_option maxHeartbeats 4000000
namespace TA
open PySem PySem.Spec PyProof.Rows L2
end TA
set_option maxHeartbeats 4000000
namespace TA
open PySem PySem.Spec PyProof.Rows L2
abbrev TLf := Addr → L2.St → Hp → (Hp → Prop) → Prop
structure PLf (Y : Cx) (lf : Value → Env → Sem Unit) (tl : TLf) : Prop where
  run : ∀ (D : Addr) (pins : List (Addr × Obj)) (s : Shared) (σ : L2.St) (H : Hp) (Nx : Hp → Prop), Inv Y pins σ H s → tl D σ H Nx → wpAny (model Y.prog Y.w) Y.A (lf (.ref D) Y.env) (fun _ s' => ∃ H', Inv Y pins σ H' s' ∧ Nx H') Y.xe s
section
variable {X : Cx}
abbrev blkC (X : Cx) (s : Shared) (H : Hp) (scope : Scope) (C : Addr) (cl : List (Str × Addr)) (fp : List Addr) : Cx := X.blk s H scope (compEnvC scope cl C X.env) fp
end
end TA
set_option maxHeartbeats 4000000
namespace TA
open PySem PySem.Spec PyProof.Rows L2
section
variable {X Y : Cx}
theorem PLf.imp {lf : Value → Env → Sem Unit} {tl tl' : TLf} (h : PLf Y lf tl) (i : ∀ D σ H Nx, tl' D σ H Nx → tl D σ H Nx) : PLf Y lf tl' := ⟨fun D pins s σ H Nx I q => h.run D pins s σ H Nx I (i D σ H Nx q)⟩
variable {elt kx vx tg iter tg1 iter1 : Expr} {ifs ifs1 : List Expr} {scope : Scope} {own : List (Str × Nat)} {vs1 : List Nat} {pos : Pos} {wi wi1 : TI} {g g1 : TG} {tt tt1 : TT} {tl : TLf}
end
end TA
set_option maxHeartbeats 4000000
namespace TA
open PySem PySem.Spec PyProof.Rows L2
section
variable {elt t0 i0 t1 i1 : Expr} {f0 f1 : List Expr} {scope : Scope} {pos : Pos}
abbrev gE (elt t0 i0 t1 i1 : Expr) (f0 f1 : List Expr) (scope : Scope) (pos : Pos) : Expr := .GeneratorExp elt [⟨t0, i0, f0, 0⟩, ⟨t1, i1, f1, 0⟩] scope pos
end
end TA
set_option maxHeartbeats 4000000
namespace TA
open PySem PySem.Spec PyProof.Rows L2
open GxR (TabB TabG Tabbed)
end TA
set_option maxHeartbeats 4000000
namespace TA
open PySem PySem.Spec PyProof.Rows L2
open GxR (TabB TabG Tabbed)
end TA
set_option maxHeartbeats 4000000
namespace TA
open PySem PySem.Spec PyProof.Rows L2 GenW
open GxR (TabB TabG Tabbed)
end TA
set_option maxHeartbeats 4000000
namespace TA
open PySem PySem.Spec PyProof.Rows L2
open GxR (TabB TabG Tabbed)
end TA
set_option maxHeartbeats 4000000
namespace TA
open PySem PySem.Spec PyProof.Rows L2
open GxR (TabB TabG Tabbed)
theorem lawGTK {P : Program} {w : World} {K : PySem.W.Frag} {mg mb : Str → Option Value} {k : Nat}
    {fa a : Addr} {cs : List (Addr × Addr)} {fd : FuncData} {x : Str} {sp : Sp} {z : Shared} {vs : List Value} {ns : List Int}
    (KX : K.In z.heap) (hns : z.heap.Ns mainGlobals mg) (hb : z.heap.Ns builtinsNs mb)
    (hbb : ∀ x : Str, x ≠ "__name__" → mb x = bootBuiltins x) (hlim : z.heap.NoLimit) (hg : z.gens = #[])
    (hC : ∀ p ∈ cs, PySem.W.CodeHd z.heap p.1 p.2 ∧ z.heap.get? p.2 = some (PySem.W.tabObj #[])) (nT : ∀ p ∈ cs, K.lookup p.2 = none)
    (hbm : ∃ (bm : Addr) (ob : Obj), mg "__builtins__" = some (.ref bm) ∧ bm ≠ builtinsNs ∧ z.heap.get? bm = some ob ∧ ob.cls = .type "module" ∧ ob.dict = some builtinsNs ∧ ob.data = .plain)
    (ha : z.heap.get? a = some { cls := .type "list", data := .seq vs.toArray }) (hi : IntsAre vs ns)
    (hl : ns.length ≤ sizeLine) (hr : Room k callerA)
    (F : ∀ b0 : Heap, K.In b0 → b0.Ns mainGlobals mg → (∀ p ∈ cs, TabB b0 mg p.1 p.2) → FnG P w K mg b0 CX0 k fa fd [x] sp)
    (hbind : ∀ (s : Shared) (u : Value), BindsTo s fd ⟨[u], []⟩ [(x, u)])
    (hsp : ∀ H : Hp, (∀ p ∈ cs, TabG H p.2) → Kinds K cs a H → SqL K H a (ns.map V.int) → sp [.ref a] H (fun v _ => v = .bl true) fun _ _ _ => False) :
    codeAny (model P w) callerA (.call (.ref fa) ⟨[.ref a], []⟩)
      (fun r s' => r = .ok (.ret (.bool true)) ∧ OldK z.heap s'.heap ∧ s'.os = z.os ∧ AllBare s'.gens) z := by
  have rv := vals_ints hi
  have lenV := hi.length
  have core : ∀ H : Hp, (∀ p ∈ cs, H p.2 = some (.tbl #[])) → SqL K H a (ns.map V.int) → HOk P w H z.heap → Kinds K cs a H → codeAny (model P w) callerA (.call (.ref fa) ⟨[.ref a], []⟩)
        (fun r s' => r = .ok (.ret (.bool true)) ∧ OldK z.heap s'.heap ∧ s'.os = z.os ∧ AllBare s'.gens) z := by
    intro H hH hS hok kinds
    have hT : ∀ p ∈ cs, TabG H p.2 := fun p hp => ⟨#[], hH p hp, True.intro⟩
    have notr : ∀ {b : Addr} {o : Obj}, z.heap.get? b = some o → (∀ us n, o.data ≠ .seq us n) → o.data ≠ .fields #[] → H b = none := fun {b o} e h1 h2 => by
      cases q : H b with
      | none => rfl
      | some u =>
        rcases kinds b u q with ⟨rfl, _⟩ | ⟨_, p, hp, rfl⟩
        · rw [ha] at e
          cases e
          exact absurd rfl (h1 _ _)
        · rw [(hC p hp).2] at e
          cases e
          exact absurd rfl h2
    have dictK : ∀ {b : Addr} {o : Obj} {es : Array DictEntry} {ep : Nat}, z.heap.get? b = some o → o.data = .dict es ep → H b = none := fun {b o es ep} e d =>
      notr e (fun us n m => by rw [d] at m; cases m) (fun m => by rw [d] at m; cases m)
    have nsK : ∀ {b : Addr} {m : Str → Option Value}, z.heap.Ns b m → (hidT z.heap H).Ns b m :=
      fun {b m} ⟨o, es, ep, e, d, r⟩ => ⟨o, es, ep, hidT_get e (dictK e d), d, r⟩
    have hKb : K.In (hidT z.heap H) := fun b o e => hidT_get (KX b o e) (by
      cases q : H b with
      | none => rfl
      | some u =>
        rcases kinds b u q with ⟨rfl, m, _⟩ | ⟨_, p, hp, rfl⟩
        · rw [m] at e; cases e
        · rw [nT p hp] at e; cases e)
    have hM : Mod K mg (hidT z.heap H) :=
      ⟨hKb, nsK hns, ⟨mb, nsK hb, hbb⟩, let ⟨mc, h1, h2⟩ := hlim; ⟨mc, nsK h1, h2⟩⟩
    have TB : ∀ p ∈ cs, TabB (hidT z.heap H) mg p.1 p.2 := fun p hp => by
      obtain ⟨C, hTp⟩ := hC p hp
      refine ⟨?_, ?_, fun m => ?_⟩
      · obtain ⟨o, us, f1, f2, f3, f4, f5, f6, f7, e1, e2, e3, r⟩ := C
        refine ⟨o, us, f1, f2, f3, f4, f5, f6, f7, hidT_get e1 (notr e1 (fun us n m => by rw [e3] at m; cases m) (fun m => ?_)), e2, e3, r⟩
        rw [e3] at m
        cases m
        simp at r
      · obtain ⟨bm, ob, b1, b2, b3, b4, b5, b6⟩ := hbm
        refine ⟨bm, ob, b1, b2, fun q => ?_, fun q => ?_, hidT_get b3 (notr b3 (fun us n m => by rw [b6] at m; cases m) (fun m => by rw [b6] at m; cases m)), b4, b5, b6⟩
        · obtain ⟨o, es, ep, e, hd, _⟩ := hns
          rw [q, e] at b3
          cases b3
          rw [hd] at b6
          cases b6
        · rw [q, hTp] at b3
          cases b3
          cases b6
      · obtain ⟨o, es, ep, e, hd, _⟩ := hns
        rw [m, hTp] at e
        cases e
        cases hd
    have e0 : Env0 P w K mg (hidT z.heap H) callerA [] z H :=
      ⟨rfl, hM, fun b o e => of_hidT e, Nat.le_of_eq (hidT_size _ _), trivial,
        fun b h => absurd (show b ∈ ([] : List Addr) from h) (List.not_mem_nil), hok, .of_eq hg⟩
    refine codeAny_mono ((F _ hKb (nsK hns) TB).run callerA [] z H ⟨[.ref a], []⟩ [.ref a] [.ref a] _ _ rfl hr e0
      (hbind z (.ref a)) (.cons rfl .nil) (hsp H hT kinds hS)) fun r s' h => ?_
    match r, h with
    | .error e, h => exact False.elim h
    | .ok .next, h => exact False.elim h
    | .ok .brk, h => exact False.elim h
    | .ok .cont, h => exact False.elim h
    | .ok (.ret u), ⟨v, H', os, bare, un, hok', r', q⟩ =>
      have qv : v = .bl true := q
      subst qv
      obtain rfl : u = Value.bool true := r'
      have grown : ∀ p ∈ cs, ∃ more : Array Value, s'.heap.get? p.2 = some { cls := .none, data := .fields more } := fun p hp => by
        obtain ⟨more, m⟩ := un.tbls p.2 #[] (hH p hp)
        exact ⟨_, hok' p.2 _ m⟩
      have keep : ∀ b o, z.heap.get? b = some o → (s'.heap.get? b = some o) ∨ ∃ p ∈ cs, b = p.2 := fun b o e => by
        cases q : H b with
        | none => exact .inl (un.keep b o e q (fun m => absurd (show b ∈ ([] : List Addr) from m) List.not_mem_nil) (by simp))
        | some u =>
          rcases kinds b u q with ⟨_, _, o1, xs, m⟩ | ⟨_, p, hp, m⟩
          · rw [m] at q
            have e1 := (hok b _ q).1
            rw [e] at e1
            cases e1
            exact .inl (hok' b _ (un.frzs b _ _ q)).1
          · exact .inr ⟨p, hp, m⟩
      refine ⟨rfl, ⟨fun b o e => ?_, fun b o e => ?_⟩, os, bare⟩
      · rcases keep b o e with m | ⟨p, hp, rfl⟩
        · exact .inl m
        · obtain ⟨more, hm⟩ := grown p hp
          obtain ⟨C, hTp⟩ := hC p hp
          rw [hTp] at e
          cases e
          exact .inr (.inl ⟨(C.tab hTp).isCodeTable, rfl, #[], more, rfl, by rw [Array.empty_append]; exact hm⟩)
      · rcases keep b o e with m | ⟨p, hp, rfl⟩
        · exact ⟨o, m⟩
        · obtain ⟨more, hm⟩ := grown p hp
          exact ⟨_, hm⟩
  have aT : ∀ p ∈ cs, p.2 ≠ a := fun p hp e => by
    have q := (hC p hp).2
    rw [e, ha] at q
    cases (congrArg Obj.data (Option.some.inj q) : Data.seq vs.toArray _ = Data.fields #[])
  have isC : ∀ b, Decidable (∃ p ∈ cs, b = p.2) := fun b => Classical.propDecidable _
  let tb : Hp := fun b => @ite _ (∃ p ∈ cs, b = p.2) (isC b) (some (.tbl #[])) none
  have tb1 : ∀ p ∈ cs, tb p.2 = some (.tbl #[]) := fun p hp => if_pos ⟨p, hp, rfl⟩
  have tb2 : ∀ b u, tb b = some u → u = .tbl #[] ∧ ∃ p ∈ cs, b = p.2 := fun b u m => by
    by_cases h : ∃ p ∈ cs, b = p.2
    · cases (if_pos h).symm.trans m
      exact ⟨rfl, h⟩
    · cases (if_neg h).symm.trans m
  have okT : ∀ b, (∃ p ∈ cs, b = p.2) → z.heap.get? b = some { cls := .none, data := .fields #[] } := fun b ⟨p, hp, e⟩ => by rw [e]; exact (hC p hp).2
  cases hk : K.lookup a with
  | some o =>
    have e := KX a o hk
    rw [ha] at e
    cases e
    refine core tb tb1 (.inr ⟨_, vs.toArray, _, hk, rfl, rfl, rfl, by rw [List.size_toArray, lenV]; exact hl, by simpa using rv⟩) (fun b u m => ?_) (fun b u m => .inr (tb2 b u m))
    obtain ⟨e, h⟩ := tb2 b u m
    rw [e]
    exact okT b h
  | none =>
    refine core (fun b => if b = a then some (.frz { cls := .type "list", data := .seq vs.toArray } (.lst (ns.map V.int))) else tb b)
      (fun p hp => (if_neg (aT p hp)).trans (tb1 p hp)) (.inl (.inr ⟨{ cls := .type "list", data := .seq vs.toArray }, if_pos rfl⟩)) (fun b u m => ?_) (fun b u m => ?_)
    · by_cases h : b = a
      · cases (if_pos h).symm.trans m
        subst h
        exact ⟨ha, by rw [List.length_map]; exact hl, vs, _, rv, ha⟩
      · obtain ⟨e, h'⟩ := tb2 b u ((if_neg h).symm.trans m)
        rw [e]
        exact okT b h'
    · by_cases h : b = a
      · cases (if_pos h).symm.trans m
        exact .inl ⟨h, hk, _, _, rfl⟩
      · exact .inr (tb2 b u ((if_neg h).symm.trans m))
end TA
set_option maxHeartbeats 4000000
namespace VL
open PySem PySem.Spec PyProof.Rows L2
open GxR (TabB Tabbed)
theorem sl_ex : ∃ f : Bool → Bool, ∀ b, f b = b := ⟨fun b => b, fun _ => rfl⟩
noncomputable def sl : Bool → Bool := Classical.choose sl_ex
theorem sl_eq (b : Bool) : sl b = b := Classical.choose_spec sl_ex b
theorem sl_iff {p : Prop} {i : Decidable p} : sl (decide p) = true ↔ p := by rw [sl_eq, decide_eq_true_iff]
inductive D where
  | non | bl (b : Bool) | int (i : Int) | str (s : Str)
  | tup (ds : List D) | lst (ds : List D) | dct (ks : List Key) (ds : List D) | obj (c : Nat) (ns : List Str) (ds : List D)
  | scr (ns : List Int)
  | any
  | exn (c : Nat) (ns : List Str) (ds : List D)
structure Gb where
  K : PySem.W.Frag
  tabs : List Addr
  cls : Nat → Addr
  hot : Option (Addr × Nat × Option Addr)
def ScrAt (K : PySem.W.Frag) (H : Hp) (a : Addr) (xs : List V) : Prop :=
  (∃ o, H a = some (.frz o (.lst xs))) ∨
    ∃ (o : Obj) (its : Array Value) (n : Nat), K.lookup a = some o ∧ o.cls = .type "list" ∧ o.dict = none ∧ o.data = .seq its n ∧ its.size ≤ sizeLine ∧ Vals xs its.toList
theorem ScrAt.sql {K : PySem.W.Frag} {H : Hp} {a : Addr} {xs : List V} (h : ScrAt K H a xs) : SqL K H a xs := by
  rcases h with ⟨o, h⟩ | h
  · exact .inl (.inr ⟨o, h⟩)
  · exact .inr h
mutual
def Rds (G : Gb) (H : Hp) : D → V → List Addr → Prop
  | .non, v, F => v = .non ∧ F = []
  | .bl b, v, F => v = .bl b ∧ F = []
  | .int i, v, F => v = .int i ∧ F = []
  | .str s, v, F => v = .str s ∧ F = []
  | .tup ds, v, F => ∃ a xs, v = .ref a ∧ SqT G.K H a xs ∧ RdsL G H ds xs F
  | .lst ds, v, F => ∃ a xs A, v = .ref a ∧ H a = some (.lst xs) ∧ RdsL G H ds xs A ∧ F = a :: A
  | .dct ks ds, v, F => ∃ a us A, v = .ref a ∧ H a = some (.dK us) ∧ (us.map (·.1) = ks ∧ ks.Nodup) ∧ RdsL G H ds (us.map (·.2)) A ∧ F = a :: A
  | .obj c ns ds, v, F => ∃ a dx us A, v = .ref a ∧ H a = some (.ins (G.cls c) dx us) ∧ us.map (·.1) = ns ∧ RdsL G H ds (us.map (·.2)) A ∧ F = a :: A
  | .scr ns, v, F => ∃ a, v = .ref a ∧ ScrAt G.K H a (ns.map V.int) ∧ F = []
  | .any, _, F => F = []
  | .exn c ns ds, v, F => ∃ a dx us, G.hot = some (a, c, dx) ∧ v = .ref a ∧ (match dx with
      | none => us = []
      | some x => H x = some (.xd us)) ∧ us.map (·.1) = ns ∧ RdsL G H ds (us.map (·.2)) F
def RdsL (G : Gb) (H : Hp) : List D → List V → List Addr → Prop
  | [], xs, F => xs = [] ∧ F = []
  | d :: ds, xs, F => ∃ x r A B, xs = x :: r ∧ F = A ++ B ∧ Rds G H d x A ∧ RdsL G H ds r B
end
def MutO : HO → Bool
  | .lst _ => true
  | .dK _ => true
  | .ins _ _ _ => true
  | .ext _ => true
  | _ => false
class LamT where
  is : Addr → Bool
def TabR (H : Hp) (P : Addr) : Prop := ∃ ps : Array Value, H P = some (.tbl ps) ∧ TriplesOk ps.toList ∧ ∀ (pos : Pos) (cv : Value), codeAmong pos ps.toList = some cv →
  ∃ (c : Addr) (oc : Obj) (vs : Array Value) (nm : Str) (t : Tok), cv = .ref c ∧ H c = some (.frz oc (.own c)) ∧ oc.data = .fields vs ∧ vs[1]? = some (.str nm t)
variable [LamT]
def TabG (H : Hp) (P : Addr) : Prop := GxR.TabG H P ∧ (LamT.is P = true → TabR H P)
def Chg (M : Addr → Prop) (H H' : Hp) : Prop := ∀ q o, H q = some o →
  H' q = some o ∨ ((∃ ps, o = .tbl ps) ∧ TabG H' q) ∨ (M q ∧ MutO o = true ∧ ∃ o', H' q = some o' ∧ MutO o' = true)
def No : Addr → Prop := fun _ => False
theorem Chg.refl (M : Addr → Prop) (H : Hp) : Chg M H H := fun _ _ e => .inl e
theorem Chg.there {M : Addr → Prop} {H H' : Hp} (c : Chg M H H') {q : Addr} {o : HO} (e : H q = some o) : ∃ o', H' q = some o' := by
  rcases c q o e with h | ⟨_, ⟨ps, h, _⟩, _⟩ | ⟨_, _, o', h, _⟩
  · exact ⟨_, h⟩
  · exact ⟨_, h⟩
  · exact ⟨_, h⟩
theorem Chg.back {M : Addr → Prop} {H H' : Hp} (c : Chg M H H') {q : Addr} (e : H' q = none) : H q = none := by
  cases h : H q with
  | none => rfl
  | some o =>
    obtain ⟨o', h'⟩ := c.there h
    rw [e] at h'
    cases h'
theorem Chg.frz {M : Addr → Prop} {H H' : Hp} (c : Chg M H H') {q : Addr} {ob : Obj} {u : HO} (e : H q = some (.frz ob u)) : H' q = some (.frz ob u) := by
  rcases c q _ e with h | ⟨⟨ps, z⟩, _⟩ | ⟨_, z, _⟩
  · exact h
  · cases z
  · cases z
theorem Chg.tab {M : Addr → Prop} {H H' : Hp} (c : Chg M H H') {q : Addr} (t : TabG H q) : TabG H' q := by
  obtain ⟨⟨ps, e, r⟩, l⟩ := t
  rcases c q _ e with h | ⟨_, h⟩ | ⟨_, h, _⟩
  · refine ⟨⟨ps, h, r⟩, fun z => ?_⟩
    obtain ⟨ps', e', r', f⟩ := l z
    rw [e] at e'
    cases e'
    refine ⟨ps, h, r, fun pos cv hc => ?_⟩
    obtain ⟨x, oc, vs, nm, t, h1, h2, h3⟩ := f pos cv hc
    exact ⟨x, oc, vs, nm, t, h1, c.frz h2, h3⟩
  · exact h
  · cases h
theorem Chg.trans {M M' : Addr → Prop} {H H1 H2 : Hp} (a : Chg M H H1) (b : Chg M' H1 H2) : Chg (fun q => M q ∨ M' q) H H2 := fun q o e => by
  rcases a q o e with h | ⟨⟨ps, rfl⟩, h⟩ | ⟨h1, h2, o', h3, h4⟩
  · rcases b q o h with h | h | ⟨h5, h6⟩
    · exact .inl h
    · exact .inr (.inl h)
    · exact .inr (.inr ⟨.inr h5, h6⟩)
  · exact .inr (.inl ⟨⟨ps, rfl⟩, b.tab h⟩)
  · rcases b q o' h3 with h | ⟨⟨ps, e⟩, _⟩ | ⟨_, _, o2, h5, h6⟩
    · exact .inr (.inr ⟨.inl h1, h2, o', h, h4⟩)
    · rw [e] at h4
      cases h4
    · exact .inr (.inr ⟨.inl h1, h2, o2, h5, h6⟩)
theorem Chg.mono {M M' : Addr → Prop} {H H' : Hp} (a : Chg M H H') (h : ∀ q o, H q = some o → M q → M' q) : Chg M' H H' := fun q o e => by
  rcases a q o e with h' | h' | ⟨h1, h2⟩
  · exact .inl h'
  · exact .inr (.inl h')
  · exact .inr (.inr ⟨h q o e h1, h2⟩)
theorem Chg.new {M : Addr → Prop} {H : Hp} {p : Addr} {u : HO} (n : H p = none) : Chg M H (upd H p u) := fun q o e => .inl (by rw [upd_ne (ne_of_none e n)]; exact e)
theorem Chg.put {H : Hp} {p : Addr} {o u : HO} (e : H p = some o) (m : MutO o = true) (m' : MutO u = true) : Chg (fun q => q = p) H (upd H p u) := fun q o' e' => by
  by_cases h : q = p
  · subst h
    rw [e] at e'
    cases e'
    exact .inr (.inr ⟨rfl, m, u, upd_same, m'⟩)
  · exact .inl (by rw [upd_ne h]; exact e')
theorem Chg.grown {P : Addr} {H H' : Hp} {M : Addr → Prop} (t : GxR.TabG H P) (t' : TabG H' P) (h : ∀ b o, b ≠ P → H b = some o → H' b = some o) : Chg M H H' := fun q o e => by
  by_cases hq : q = P
  · subst hq
    obtain ⟨ps, e', _⟩ := t
    rw [e] at e'
    cases e'
    exact .inr (.inl ⟨⟨ps, rfl⟩, t'⟩)
  · exact .inl (h q o hq e)
theorem Chg.tabbed {P : Addr} {H H' : Hp} {M : Addr → Prop} (t : TabG H P) (h : Tabbed P H H') (hL : LamT.is P = false) : Chg M H H' :=
  Chg.grown t.1 ⟨h.1, fun z => by rw [hL] at z; cases z⟩ fun b o hb e => by rw [h.2 b hb]; exact e
section
variable {G : Gb} {H H' : Hp} {M : Addr → Prop}
theorem SqT.chg {K : PySem.W.Frag} (c : Chg M H H') {a : Addr} {xs : List V} (h : SqT K H a xs) : SqT K H' a xs := by
  rcases h with (h | ⟨o, h⟩) | h
  · rcases c a _ h with h' | ⟨⟨ps, z⟩, _⟩ | ⟨_, z, _⟩
    · exact .inl (.inl h')
    · cases z
    · cases z
  · rcases c a _ h with h' | ⟨⟨ps, z⟩, _⟩ | ⟨_, z, _⟩
    · exact .inl (.inr ⟨o, h'⟩)
    · cases z
    · cases z
  · exact .inr h
theorem ScrAt.chg {K : PySem.W.Frag} (c : Chg M H H') {a : Addr} {xs : List V} (h : ScrAt K H a xs) : ScrAt K H' a xs := by
  rcases h with ⟨o, h⟩ | h
  · rcases c a _ h with h' | ⟨⟨ps, z⟩, _⟩ | ⟨_, z, _⟩
    · exact .inl ⟨o, h'⟩
    · cases z
    · cases z
  · exact .inr h
theorem Chg.keep (c : Chg M H H') {q : Addr} {o : HO} (e : H q = some o) (m : MutO o = true) (n : ¬ M q) : H' q = some o := by
  rcases c q o e with h | ⟨⟨ps, z⟩, _⟩ | ⟨z, _⟩
  · exact h
  · rw [z] at m
    cases m
  · exact absurd z n
mutual
theorem Rds.chg (c : Chg M H H') : ∀ (d : D) (v : V) (F : List Addr), (∀ a ∈ F, ¬ M a) → Rds G H d v F → Rds G H' d v F
  | .non, _, _, _, h => by unfold Rds at h ⊢; exact h
  | .bl _, _, _, _, h => by unfold Rds at h ⊢; exact h
  | .int _, _, _, _, h => by unfold Rds at h ⊢; exact h
  | .str _, _, _, _, h => by unfold Rds at h ⊢; exact h
  | .tup ds, v, F, n, h => by
    unfold Rds at h ⊢
    obtain ⟨a, xs, h1, h2, h3⟩ := h
    exact ⟨a, xs, h1, SqT.chg c h2, RdsL.chg c ds xs F n h3⟩
  | .lst ds, v, F, n, h => by
    unfold Rds at h ⊢
    obtain ⟨a, xs, A, h1, h2, h3, rfl⟩ := h
    exact ⟨a, xs, A, h1, c.keep h2 rfl (n a List.mem_cons_self), RdsL.chg c ds xs A (fun b hb => n b (List.mem_cons_of_mem _ hb)) h3, rfl⟩
  | .dct ks ds, v, F, n, h => by
    unfold Rds at h ⊢
    obtain ⟨a, us, A, h1, h2, h3, h4, rfl⟩ := h
    exact ⟨a, us, A, h1, c.keep h2 rfl (n a List.mem_cons_self), h3, RdsL.chg c ds _ A (fun b hb => n b (List.mem_cons_of_mem _ hb)) h4, rfl⟩
  | .obj k ns ds, v, F, n, h => by
    unfold Rds at h ⊢
    obtain ⟨a, dx, us, A, h1, h2, h3, h4, rfl⟩ := h
    exact ⟨a, dx, us, A, h1, c.keep h2 rfl (n a List.mem_cons_self), h3, RdsL.chg c ds _ A (fun b hb => n b (List.mem_cons_of_mem _ hb)) h4, rfl⟩
  | .scr ns, v, F, n, h => by
    unfold Rds at h ⊢
    obtain ⟨a, h1, h2, h3⟩ := h
    exact ⟨a, h1, ScrAt.chg c h2, h3⟩
  | .any, _, _, _, h => by unfold Rds at h ⊢; exact h
  | .exn k ns ds, v, F, n, h => by
    unfold Rds at h ⊢
    obtain ⟨a, dx, us, h0, h1, h2, h3, h4⟩ := h
    refine ⟨a, dx, us, h0, h1, ?_, h3, RdsL.chg c ds _ F n h4⟩
    cases dx with
    | none => exact h2
    | some x =>
      rcases c x _ h2 with h' | ⟨⟨ps, z⟩, _⟩ | ⟨_, z, _⟩
      · exact h'
      · cases z
      · cases z
theorem RdsL.chg (c : Chg M H H') : ∀ (ds : List D) (vs : List V) (F : List Addr), (∀ a ∈ F, ¬ M a) → RdsL G H ds vs F → RdsL G H' ds vs F
  | [], _, _, _, h => by unfold RdsL at h ⊢; exact h
  | d :: ds, vs, F, n, h => by
    unfold RdsL at h ⊢
    obtain ⟨x, r, A, B, h1, rfl, h3, h4⟩ := h
    exact ⟨x, r, A, B, h1, rfl, Rds.chg c d x A (fun a ha => n a (List.mem_append_left _ ha)) h3, RdsL.chg c ds r B (fun a ha => n a (List.mem_append_right _ ha)) h4⟩
end
mutual
theorem Rds.trk : ∀ (d : D) (v : V) (F : List Addr), Rds G H d v F → ∀ a ∈ F, ∃ o, H a = some o ∧ MutO o = true
  | .non, _, _, h, a, ha => by unfold Rds at h; rw [h.2] at ha; cases ha
  | .bl _, _, _, h, a, ha => by unfold Rds at h; rw [h.2] at ha; cases ha
  | .int _, _, _, h, a, ha => by unfold Rds at h; rw [h.2] at ha; cases ha
  | .str _, _, _, h, a, ha => by unfold Rds at h; rw [h.2] at ha; cases ha
  | .tup ds, v, F, h, a, ha => by
    unfold Rds at h
    obtain ⟨_, xs, h1, h2, h3⟩ := h
    exact RdsL.trk ds xs F h3 a ha
  | .lst ds, v, F, h, a, ha => by
    unfold Rds at h
    obtain ⟨b, xs, A, h1, h2, h3, rfl⟩ := h
    rcases List.mem_cons.mp ha with rfl | ha
    · exact ⟨_, h2, rfl⟩
    · exact RdsL.trk ds xs A h3 a ha
  | .dct ks ds, v, F, h, a, ha => by
    unfold Rds at h
    obtain ⟨b, us, A, h1, h2, h3, h4, rfl⟩ := h
    rcases List.mem_cons.mp ha with rfl | ha
    · exact ⟨_, h2, rfl⟩
    · exact RdsL.trk ds _ A h4 a ha
  | .obj k ns ds, v, F, h, a, ha => by
    unfold Rds at h
    obtain ⟨b, dx, us, A, h1, h2, h3, h4, rfl⟩ := h
    rcases List.mem_cons.mp ha with rfl | ha
    · exact ⟨_, h2, rfl⟩
    · exact RdsL.trk ds _ A h4 a ha
  | .scr ns, v, F, h, a, ha => by
    unfold Rds at h
    obtain ⟨_, h1, h2, h3⟩ := h
    rw [h3] at ha
    cases ha
  | .exn _ _ ds, v, F, h, a, ha => by
    unfold Rds at h
    obtain ⟨_, _, us, _, _, _, _, h4⟩ := h
    exact RdsL.trk ds _ F h4 a ha
theorem RdsL.trk : ∀ (ds : List D) (vs : List V) (F : List Addr), RdsL G H ds vs F → ∀ a ∈ F, ∃ o, H a = some o ∧ MutO o = true
  | [], _, _, h, a, ha => by unfold RdsL at h; rw [h.2] at ha; cases ha
  | d :: ds, vs, F, h, a, ha => by
    unfold RdsL at h
    obtain ⟨x, r, A, B, h1, rfl, h3, h4⟩ := h
    rcases List.mem_append.mp ha with ha | ha
    · exact Rds.trk d x A h3 a ha
    · exact RdsL.trk ds r B h4 a ha
end
mutual
def D.atom : D → Bool
  | .tup ds => D.atomL ds
  | .lst _ => false
  | .dct _ _ => false
  | .obj _ _ _ => false
  | .exn _ _ ds => D.atomL ds
  | _ => true
def D.atomL : List D → Bool
  | [] => true
  | d :: ds => d.atom && D.atomL ds
end
mutual
theorem Rds.atom : ∀ (d : D) (v : V) (F : List Addr), d.atom = true → Rds G H d v F → F = []
  | .non, _, _, _, h => by unfold Rds at h; exact h.2
  | .bl _, _, _, _, h => by unfold Rds at h; exact h.2
  | .int _, _, _, _, h => by unfold Rds at h; exact h.2
  | .str _, _, _, _, h => by unfold Rds at h; exact h.2
  | .tup ds, v, F, a, h => by
    unfold Rds at h
    obtain ⟨_, xs, h1, h2, h3⟩ := h
    exact RdsL.atom ds xs F (by unfold D.atom at a; exact a) h3
  | .lst _, _, _, a, _ => by unfold D.atom at a; cases a
  | .dct _ _, _, _, a, _ => by unfold D.atom at a; cases a
  | .obj _ _ _, _, _, a, _ => by unfold D.atom at a; cases a
  | .scr _, _, _, _, h => by unfold Rds at h; obtain ⟨_, _, _, h⟩ := h; exact h
  | .any, _, _, _, h => by unfold Rds at h; exact h
  | .exn _ _ ds, v, F, a, h => by
    unfold Rds at h
    obtain ⟨_, _, us, _, _, _, _, h4⟩ := h
    exact RdsL.atom ds _ F (by unfold D.atom at a; exact a) h4
theorem RdsL.atom : ∀ (ds : List D) (vs : List V) (F : List Addr), D.atomL ds = true → RdsL G H ds vs F → F = []
  | [], _, _, _, h => by unfold RdsL at h; exact h.2
  | d :: ds, vs, F, a, h => by
    unfold RdsL at h
    unfold D.atomL at a
    rw [Bool.and_eq_true] at a
    obtain ⟨x, r, A, B, h1, rfl, h3, h4⟩ := h
    rw [Rds.atom d x A a.1 h3, RdsL.atom ds r B a.2 h4]
    rfl
end
end
inductive Mode where
  | arg | shr | own | io | tip
  deriving DecidableEq
def Mode.w : Mode → Bool
  | .own => true
  | .io => true
  | _ => false
def Mode.new : Mode → Bool
  | .own => true
  | .shr => true
  | _ => false
abbrev Env := List (Option (Mode × D))
structure Ctx where
  H0 : Hp
  Z : Nat → Addr → Prop
  T : Addr → Prop
  HT : Hp
  iov : Nat → V
def TipAt (C : Ctx) (E : Env) (Fs : Nat → List Addr) (i : Nat) : Prop := ∃ a r, Fs i = a :: r ∧ a ∉ r ∧ C.H0 a = none ∧ ¬ C.T a ∧ ∀ j m' d', j ≠ i → E[j]? = some (some (m', d')) → a ∉ Fs j
structure Rel (G : Gb) (C : Ctx) (H : Hp) (σ : L2.St) (E : Env) (Fs : Nat → List Addr) : Prop where
  len : E.length = σ.length
  rd : ∀ i m d, E[i]? = some (some (m, d)) → ∃ v, σ[i]? = some (some v) ∧ Rds G H d v (Fs i) ∧ (m = .io → v = C.iov i)
  nd : ∀ i m d, E[i]? = some (some (m, d)) → m.w = true → (Fs i).Nodup ∧ (∀ a ∈ Fs i, ¬ C.T a) ∧ ∀ j m' d', j ≠ i → E[j]? = some (some (m', d')) → ∀ a ∈ Fs i, a ∉ Fs j
  nw : ∀ i m d, E[i]? = some (some (m, d)) → (m.new = true → ∀ a ∈ Fs i, C.H0 a = none) ∧ (m = .io → ∀ a ∈ Fs i, C.Z i a ∨ C.H0 a = none)
  fr : Chg (fun q => ∃ i, C.Z i q) C.H0 H
  pr : Chg (fun q => ¬ C.T q) C.HT H
  pt : ∀ q, C.T q → ∃ o, C.HT q = some o ∧ MutO o = true
  tb : ∀ T ∈ G.tabs, TabG H T
  tp : ∀ i d, E[i]? = some (some (.tip, d)) → TipAt C E Fs i
inductive Kind where
  | own | sub (i : Nat) | top (S : List Nat) | vw (S : List Nat) | ref (i : Nat)
  deriving DecidableEq
def Kind.S : Kind → List Nat
  | .own => []
  | .sub i => [i]
  | .top S => S
  | .vw S => S
  | .ref i => [i]
def Asg (E : Env) (i : Nat) : Prop := ∃ m d, E[i]? = some (some (m, d))
def Loose (H : Hp) (E : Env) (Fs : Nat → List Addr) (a : Addr) : Prop := H a = none ∧ ∀ i, Asg E i → a ∉ Fs i
def Vw (H : Hp) (E : Env) (Fs : Nat → List Addr) (S : List Nat) (F : List Addr) : Prop := ∀ a ∈ F, (∃ i ∈ S, Asg E i ∧ a ∈ Fs i) ∨ Loose H E Fs a
def D.node : D → Bool
  | .lst _ => true
  | .dct _ _ => true
  | .obj _ _ _ => true
  | _ => false
def KOk (σ : L2.St) (H : Hp) (E : Env) (Fs : Nat → List Addr) (k : Kind) (d : D) (v : V) (F : List Addr) : Prop :=
  match k with
  | .own => F.Nodup ∧ Vw H E Fs [] F
  | .sub i => Asg E i ∧ F.Sublist (Fs i)
  | .top S => Vw H E Fs S F ∧ ∀ a r, d.node = true → F = a :: r → Loose H E Fs a
  | .vw S => Vw H E Fs S F
  | .ref i => ∃ m, E[i]? = some (some (m, d)) ∧ σ[i]? = some (some v) ∧ F = Fs i
theorem KOk.vw {σ : L2.St} {v : V} {H : Hp} {E : Env} {Fs : Nat → List Addr} {k : Kind} {d : D} {F : List Addr} (h : KOk σ H E Fs k d v F) : Vw H E Fs k.S F := by
  cases k with
  | own => exact h.2
  | sub i => exact fun a ha => .inl ⟨i, List.mem_singleton.mpr rfl, h.1, h.2.subset ha⟩
  | top S => exact h.1
  | vw S => exact h
  | ref i =>
    obtain ⟨m, e, _, rfl⟩ := h
    exact fun a ha => .inl ⟨i, List.mem_singleton.mpr rfl, ⟨m, d, e⟩, ha⟩
structure Stp (M : List Nat) (H H' : Hp) (E E' : Env) (Fs Fs' : Nat → List Addr) : Prop where
  chg : Chg (fun q => ∃ i ∈ M, ∃ m d, E[i]? = some (some (m, d)) ∧ m.w = true ∧ q ∈ Fs i) H H'
  fs : ∀ i, i ∉ M → Fs' i = Fs i
  gr : ∀ i : Nat, ∀ a ∈ Fs' i, a ∈ Fs i ∨ H a = none
  env : ∀ i : Nat, i ∉ M → E'[i]? = E[i]?
  md : ∀ i : Nat, (∀ m d, E[i]? = some (some (m, d)) → ∃ d', E'[i]? = some (some (m, d'))) ∧ (∀ m d, E'[i]? = some (some (m, d)) → ∃ d', E[i]? = some (some (m, d')))
  tf : ∀ i d, E[i]? = some (some (.tip, d)) → Fs' i = Fs i
theorem Stp.refl {M : List Nat} {H : Hp} {E : Env} {Fs : Nat → List Addr} : Stp M H H E E Fs Fs :=
  ⟨Chg.refl _ _, fun _ _ => rfl, fun _ _ h => .inl h, fun _ _ => rfl, fun _ => ⟨fun _ d e => ⟨d, e⟩, fun _ d e => ⟨d, e⟩⟩, fun _ _ _ => rfl⟩
theorem Stp.of {M : List Nat} {H H' : Hp} {E : Env} {Fs : Nat → List Addr} (c : Chg No H H') : Stp M H H' E E Fs Fs :=
  ⟨c.mono fun _ _ _ z => z.elim, fun _ _ => rfl, fun _ _ h => .inl h, fun _ _ => rfl, fun _ => ⟨fun _ d e => ⟨d, e⟩, fun _ d e => ⟨d, e⟩⟩, fun _ _ _ => rfl⟩
theorem Stp.asg {M : List Nat} {H H' : Hp} {E E' : Env} {Fs Fs' : Nat → List Addr} (s : Stp M H H' E E' Fs Fs') {i : Nat} : Asg E' i ↔ Asg E i :=
  ⟨fun ⟨m, d, e⟩ => let ⟨d', e'⟩ := (s.md i).2 m d e; ⟨m, d', e'⟩, fun ⟨m, d, e⟩ => let ⟨d', e'⟩ := (s.md i).1 m d e; ⟨m, d', e'⟩⟩
theorem Stp.trans {M M' : List Nat} {H H1 H2 : Hp} {E E1 E2 : Env} {Fs Fs1 Fs2 : Nat → List Addr} (a : Stp M H H1 E E1 Fs Fs1) (b : Stp M' H1 H2 E1 E2 Fs1 Fs2) : Stp (M ++ M') H H2 E E2 Fs Fs2 where
  chg := (a.chg.trans b.chg).mono fun q o e h => by
    rcases h with ⟨i, hi, m, d, h⟩ | ⟨i, hi, m, d, h1, h2, h3⟩
    · exact ⟨i, List.mem_append_left _ hi, m, d, h⟩
    · obtain ⟨d', e'⟩ := (a.md i).2 m d h1
      refine ⟨i, List.mem_append_right _ hi, m, d', e', h2, ?_⟩
      rcases a.gr i q h3 with z | z
      · exact z
      · rw [e] at z
        cases z
  fs := fun i hi => (b.fs i fun h => hi (List.mem_append_right _ h)).trans (a.fs i fun h => hi (List.mem_append_left _ h))
  gr := fun i q h => by
    rcases b.gr i q h with h | h
    · exact a.gr i q h
    · exact .inr (a.chg.back h)
  env := fun i hi => (b.env i fun h => hi (List.mem_append_right _ h)).trans (a.env i fun h => hi (List.mem_append_left _ h))
  md := fun i => ⟨fun m d e => let ⟨d', e'⟩ := (a.md i).1 m d e; (b.md i).1 m d' e', fun m d e => let ⟨d', e'⟩ := (b.md i).2 m d e; (a.md i).2 m d' e'⟩
  tf := fun i d e => let ⟨d', e'⟩ := (a.md i).1 _ d e; (b.tf i d' e').trans (a.tf i d e)
theorem Stp.mono {M M' : List Nat} {H H' : Hp} {E E' : Env} {Fs Fs' : Nat → List Addr} (a : Stp M H H' E E' Fs Fs') (h : ∀ i ∈ M, i ∈ M') : Stp M' H H' E E' Fs Fs' where
  chg := a.chg.mono fun q o e ⟨i, hi, r⟩ => ⟨i, h i hi, r⟩
  fs := fun i hi => a.fs i fun z => hi (h i z)
  gr := a.gr
  env := fun i hi => a.env i fun z => hi (h i z)
  md := a.md
  tf := a.tf
theorem Vw.base {M : Addr → Prop} {H H1 : Hp} {E : Env} {Fs : Nat → List Addr} {S : List Nat} {F : List Addr} (c : Chg M H H1) (h : Vw H1 E Fs S F) : Vw H E Fs S F := fun a ha => by
  rcases h a ha with z | ⟨z1, z2⟩
  · exact .inl z
  · exact .inr ⟨c.back z1, z2⟩
theorem KOk.base {σ : L2.St} {v : V} {M : Addr → Prop} {H H1 : Hp} {E : Env} {Fs : Nat → List Addr} {k : Kind} {d : D} {F : List Addr} (c : Chg M H H1) (h : KOk σ H1 E Fs k d v F) : KOk σ H E Fs k d v F := by
  cases k with
  | own => exact ⟨h.1, Vw.base c h.2⟩
  | sub i => exact h
  | top S => exact ⟨Vw.base c h.1, fun a r n e => let z := h.2 a r n e; ⟨c.back z.1, z.2⟩⟩
  | vw S => exact Vw.base c h
  | ref i => exact h
def Kind.safe (k : Kind) (M : List Nat) : Bool := k.S.all fun i => !M.contains i
theorem Kind.safe_of {k : Kind} {M : List Nat} (h : k.safe M = true) : ∀ i ∈ k.S, i ∉ M := fun i hi hm => by
  have := List.all_eq_true.mp h i hi
  simp [hm] at this
section
variable {G : Gb} {C : Ctx} {H H1 H2 : Hp} {σ : L2.St} {E1 E2 : Env} {Fs1 Fs2 : Nat → List Addr} {k : Kind} {d : D} {v : V} {F : List Addr} {M : List Nat}
theorem Loose.step {a : Addr} {o : HO} (e : H1 a = some o) (s : Stp M H1 H2 E1 E2 Fs1 Fs2) (h : Loose H E1 Fs1 a) : Loose H E2 Fs2 a :=
  ⟨h.1, fun i hi m => by
    rcases s.gr i a m with z | z
    · exact h.2 i (s.asg.mp hi) z
    · rw [e] at z
      cases z⟩
theorem Vw.step {S : List Nat} (t : ∀ a ∈ F, ∃ o, H1 a = some o) (s : Stp M H1 H2 E1 E2 Fs1 Fs2) (hs : ∀ i ∈ S, i ∉ M) (h : Vw H E1 Fs1 S F) : Vw H E2 Fs2 S F := fun a ha => by
  rcases h a ha with ⟨i, hi, h1, h2⟩ | h1
  · exact .inl ⟨i, hi, s.asg.mpr h1, by rw [s.fs i (hs i hi)]; exact h2⟩
  · obtain ⟨o, e⟩ := t a ha
    exact .inr (h1.step e s)
theorem Vw.apart {S : List Nat} (R : Rel G C H1 σ E1 Fs1) (hs : ∀ i ∈ S, i ∉ M) (h : Vw H E1 Fs1 S F) : ∀ a ∈ F, ¬ ∃ i ∈ M, ∃ m d, E1[i]? = some (some (m, d)) ∧ m.w = true ∧ a ∈ Fs1 i := fun a ha ⟨j, hj, m, d, e, hw, hm⟩ => by
  rcases h a ha with ⟨i, hi, ⟨m', d', e'⟩, h2⟩ | h1
  · exact (R.nd j m d e hw).2.2 i m' d' (fun z => hs i hi (by rw [z]; exact hj)) e' a hm h2
  · exact h1.2 j ⟨m, d, e⟩ hm
theorem KOk.step (R : Rel G C H1 σ E1 Fs1) (r : Rds G H1 d v F) (s : Stp M H1 H2 E1 E2 Fs1 Fs2) (hs : k.safe M = true) (h : KOk σ H E1 Fs1 k d v F) : Rds G H2 d v F ∧ KOk σ H E2 Fs2 k d v F := by
  have t : ∀ a ∈ F, ∃ o, H1 a = some o := fun a ha => let ⟨o, e, _⟩ := Rds.trk d v F r a ha; ⟨o, e⟩
  have hs' := Kind.safe_of hs
  refine ⟨Rds.chg s.chg d v F (Vw.apart R hs' h.vw) r, ?_⟩
  cases k with
  | own => exact ⟨h.1, h.2.step t s (fun i hi => by cases hi)⟩
  | sub i => exact ⟨s.asg.mpr h.1, by rw [s.fs i (hs' i (List.mem_singleton.mpr rfl))]; exact h.2⟩
  | top S => exact ⟨h.1.step t s hs', fun a r n e => by
      obtain ⟨o, e'⟩ := t a (by rw [e]; exact List.mem_cons_self)
      exact (h.2 a r n e).step e' s⟩
  | vw S => exact Vw.step t s hs' h
  | ref i =>
    obtain ⟨m, e, e', rfl⟩ := h
    have n := hs' i (List.mem_singleton.mpr rfl)
    exact ⟨m, by rw [s.env i n]; exact e, e', (s.fs i n).symm⟩
end
abbrev EF := Env → Option (D × Env)
def tV (G : Gb) (M : List Nat) (k : Kind) (f : EF) : TE := fun σ H Q => ∃ C E Fs, Rel G C H σ E Fs ∧ ∃ d E', f E = some (d, E') ∧
  ∀ v H' Fs' F, Rel G C H' σ E' Fs' → Stp M H H' E E' Fs Fs' → Rds G H' d v F → KOk σ H E' Fs' k d v F → Q v H'
abbrev VE (G : Gb) (X : Cx) (e : Expr) (M : List Nat) (k : Kind) (f : EF) : Prop := PE X e (tV G M k f)
theorem PE.imp {X : Cx} {e : Expr} {t t' : TE} (h : PE X e t) (i : ∀ σ H Q, t' σ H Q → t σ H Q) : PE X e t' := ⟨fun pins s σ H Q I q => h.run pins s σ H Q I (i σ H Q q)⟩
theorem PT.imp {X : Cx} {e : Expr} {t t' : TT} (h : PT X e t) (i : ∀ σ H Q, t' σ H Q → t σ H Q) : PT X e t' := ⟨fun pins s σ H Q I q => h.run pins s σ H Q I (i σ H Q q)⟩
theorem PA.imp {X : Cx} {es : List Expr} {t t' : TA} (h : PA X es t) (i : ∀ σ H Q, t' σ H Q → t σ H Q) : PA X es t' := ⟨fun p pins s σ H Q I q => h.run p pins s σ H Q I (i σ H Q q)⟩
theorem PS.imp {X : Cx} {e : Stmt} {t t' : TS} (h : PS X e t) (i : ∀ D σ H, t' D σ H → t D σ H) : PS X e t' := ⟨fun pins s σ H D I q => h.run pins s σ H D I (i D σ H q)⟩
theorem PSs.imp {X : Cx} {e : List Stmt} {t t' : TS} (h : PSs X e t) (i : ∀ D σ H, t' D σ H → t D σ H) : PSs X e t' := ⟨fun pins s σ H D I q => h.run pins s σ H D I (i D σ H q)⟩
def ArgsOk (G : Gb) (σ : L2.St) (H H' : Hp) (E : Env) (Fs : Nat → List Addr) : List Kind → List D → List V → List (List Addr) → Prop
  | [], ds, vs, FF => ds = [] ∧ vs = [] ∧ FF = []
  | k :: ks, ds, vs, FF => ∃ d ds' v vs' F FF', ds = d :: ds' ∧ vs = v :: vs' ∧ FF = F :: FF' ∧ Rds G H' d v F ∧ KOk σ H E Fs k d v F ∧
      (∀ (j : Nat) (B : List Addr), FF'[j]? = some B → (k = Kind.own ∨ ks[j]? = some Kind.own) → ∀ a ∈ F, a ∉ B) ∧ ArgsOk G σ H H' E Fs ks ds' vs' FF'
abbrev LF := Env → Option (List D × Env)
def tVL (G : Gb) (M : List Nat) (ks : List Kind) (f : LF) : TA := fun σ H Q => ∃ C E Fs, Rel G C H σ E Fs ∧ ∃ ds E', f E = some (ds, E') ∧
  ∀ vs H' Fs' FF, Rel G C H' σ E' Fs' → Stp M H H' E E' Fs Fs' → ArgsOk G σ H H' E' Fs' ks ds vs FF → Q vs H'
abbrev VL (G : Gb) (X : Cx) (es : List Expr) (M : List Nat) (ks : List Kind) (f : LF) : Prop := PA X es (tVL G M ks f)
def lNil : LF := fun E => some ([], E)
def lCons (f : EF) (g : LF) : LF := fun E => match f E with
  | some (d, E1) => (match g E1 with
    | some (ds, E2) => some (d :: ds, E2)
    | none => none)
  | none => none
theorem ArgsOk.base {G : Gb} {σ : L2.St} {M : Addr → Prop} {H H1 H' : Hp} {E : Env} {Fs : Nat → List Addr} (c : Chg M H H1) : ∀ {ks : List Kind} {ds : List D} {vs : List V} {FF : List (List Addr)}, ArgsOk G σ H1 H' E Fs ks ds vs FF → ArgsOk G σ H H' E Fs ks ds vs FF
  | [], _, _, _, h => by unfold ArgsOk at h ⊢; exact h
  | k :: ks, _, _, _, h => by
    unfold ArgsOk at h ⊢
    obtain ⟨d, ds', v, vs', F, FF', h1, h2, h3, h4, h5, h6, h7⟩ := h
    exact ⟨d, ds', v, vs', F, FF', h1, h2, h3, h4, h5.base c, h6, h7.base c⟩
theorem ArgsOk.get {G : Gb} {σ : L2.St} {H H' : Hp} {E : Env} {Fs : Nat → List Addr} : ∀ {ks : List Kind} {ds : List D} {vs : List V} {FF : List (List Addr)} {j : Nat} {B : List Addr}, ArgsOk G σ H H' E Fs ks ds vs FF → FF[j]? = some B → ∃ k d v, ks[j]? = some k ∧ ds[j]? = some d ∧ vs[j]? = some v ∧ Rds G H' d v B ∧ KOk σ H E Fs k d v B
  | [], _, _, _, j, B, h, e => by
    obtain ⟨_, _, rfl⟩ := h
    simp at e
  | k :: ks, _, _, _, j, B, h, e => by
    obtain ⟨d, ds', v, vs', F, FF', rfl, rfl, rfl, h4, h5, h6, h7⟩ := h
    cases j with
    | zero =>
      simp at e
      subst e
      exact ⟨k, d, v, rfl, rfl, rfl, h4, h5⟩
    | succ j => simpa using h7.get (by simpa using e)
section
variable {G : Gb} {X : Cx} {e : Expr} {es : List Expr} {M M' : List Nat} {k : Kind} {ks : List Kind} {f : EF} {g : LF}
theorem vl_nil : VL G X [] [] [] lNil := PA.imp pa_nil fun σ H Q ⟨C, E, Fs, R, ds, E', e, q⟩ => by
  cases e
  exact q [] H Fs [] R Stp.refl ⟨rfl, rfl, rfl⟩
theorem seq_cons {σ : L2.St} {H : Hp} {Q : List V → Hp → Prop} (hs : k.safe M' = true) (h : tVL G (M ++ M') (k :: ks) (lCons f g) σ H Q) : tV G M k f σ H fun x H1 => tVL G M' ks g σ H1 fun xs H2 => Q (x :: xs) H2 := by
  obtain ⟨C, E, Fs, R, ds, E', e, q⟩ := h
  unfold lCons at e
  cases e1 : f E with
  | none => rw [e1] at e; cases e
  | some p =>
    obtain ⟨d, E1⟩ := p
    rw [e1] at e
    dsimp only at e
    cases e2 : g E1 with
    | none => rw [e2] at e; cases e
    | some p2 =>
      obtain ⟨ds', E'⟩ := p2
      rw [e2] at e
      cases e
      refine ⟨C, E, Fs, R, d, E1, e1, fun v H1 Fs1 F R1 s1 r1 k1 => ⟨C, E1, Fs1, R1, ds', E', e2, fun vs H2 Fs2 FF R2 s2 a2 => ?_⟩⟩
      obtain ⟨r2, k2⟩ := k1.step R1 r1 s2 hs
      refine q (v :: vs) H2 Fs2 (F :: FF) R2 (s1.trans s2) ⟨d, ds', v, vs, F, FF, rfl, rfl, rfl, r2, k2, fun j B hB hk a ha hb => ?_, a2.base s1.chg⟩
      obtain ⟨o, eo, _⟩ := Rds.trk d v F r1 a ha
      have kj' : ∃ kj dj vj, ks[j]? = some kj ∧ KOk σ H1 E' Fs2 kj dj vj B := let ⟨kj, dj, vj, h1, _, _, _, h5⟩ := a2.get hB; ⟨kj, dj, vj, h1, h5⟩
      obtain ⟨kj, dj, vj, ej, hj⟩ := kj'
      rcases hj.vw a hb with ⟨i, hi, h1, h2⟩ | h1
      · rcases hk with hk | hk
        · subst hk
          rcases k2.2 a ha with ⟨_, z, _⟩ | z
          · cases z
          · exact z.2 i h1 h2
        · rw [hk] at ej
          cases ej
          cases hi
      · rw [h1.1] at eo
        cases eo
theorem vl_cons (he : VE G X e M k f) (hr : VL G X es M' ks g) (sf : k.safe M' = true := by rfl) (hs : starEach (e :: es) X.env = (false, eval e X.env) :: starEach es X.env := by rfl) : VL G X (e :: es) (M ++ M') (k :: ks) (lCons f g) :=
  PA.imp (pa_cons he hr hs) fun σ H Q h => seq_cons sf h
end
end VL
set_option maxHeartbeats 4000000
namespace VL
noncomputable section
open PySem PySem.Spec PyProof.Rows L2
open GxR (TabB Tabbed)
variable [LamT]
section
variable {G : Gb} {C : Ctx} {H H' : Hp} {σ : L2.St} {E : Env} {Fs : Nat → List Addr}
theorem Rel.loose (R : Rel G C H σ E Fs) {a : Addr} (n : H a = none) : Loose H E Fs a := ⟨n, fun i ⟨m, d, e⟩ hm => by
  obtain ⟨v, _, r, _⟩ := R.rd i m d e
  obtain ⟨o, e', _⟩ := Rds.trk d v _ r a hm
  rw [n] at e'
  cases e'⟩
theorem Rel.chg (R : Rel G C H σ E Fs) (c : Chg No H H') : Rel G C H' σ E Fs where
  len := R.len
  rd := fun i m d e => let ⟨v, h1, h2, h3⟩ := R.rd i m d e; ⟨v, h1, Rds.chg c d v _ (fun _ _ z => z) h2, h3⟩
  nd := R.nd
  nw := R.nw
  fr := (R.fr.trans c).mono fun _ _ _ z => z.elim id fun z => z.elim
  pr := (R.pr.trans c).mono fun _ _ _ z => z.elim id fun z => z.elim
  pt := R.pt
  tb := fun T hT => c.tab (R.tb T hT)
  tp := R.tp
theorem ArgsOk.rds : ∀ {ks : List Kind} {ds : List D} {vs : List V} {FF : List (List Addr)} {H1 : Hp}, ArgsOk G σ H1 H E Fs ks ds vs FF → RdsL G H ds vs FF.flatten
  | [], _, _, _, _, h => by
    obtain ⟨rfl, rfl, rfl⟩ := h
    unfold RdsL
    exact ⟨rfl, rfl⟩
  | k :: ks, _, _, _, _, h => by
    obtain ⟨d, ds', v, vs', F, FF', rfl, rfl, rfl, h4, h5, h6, h7⟩ := h
    unfold RdsL
    exact ⟨v, vs', F, FF'.flatten, rfl, by simp, h4, h7.rds⟩
theorem ArgsOk.vw : ∀ {ks : List Kind} {ds : List D} {vs : List V} {FF : List (List Addr)} {H1 : Hp}, ArgsOk G σ H1 H E Fs ks ds vs FF → Vw H1 E Fs (ks.map Kind.S).flatten FF.flatten
  | [], _, _, _, _, h => by
    obtain ⟨rfl, rfl, rfl⟩ := h
    intro a ha
    cases ha
  | k :: ks, _, _, _, _, h => by
    obtain ⟨d, ds', v, vs', F, FF', rfl, rfl, rfl, h4, h5, h6, h7⟩ := h
    intro a ha
    rw [List.flatten_cons, List.mem_append] at ha
    rcases ha with ha | ha
    · rcases h5.vw a ha with ⟨i, hi, z⟩ | z
      · exact .inl ⟨i, by rw [List.map_cons, List.flatten_cons]; exact List.mem_append_left _ hi, z⟩
      · exact .inr z
    · rcases h7.vw a ha with ⟨i, hi, z⟩ | z
      · exact .inl ⟨i, by rw [List.map_cons, List.flatten_cons]; exact List.mem_append_right _ hi, z⟩
      · exact .inr z
theorem ArgsOk.nodup : ∀ {ks : List Kind} {ds : List D} {vs : List V} {FF : List (List Addr)} {H1 : Hp}, (∀ k ∈ ks, k = Kind.own) → ArgsOk G σ H1 H E Fs ks ds vs FF → FF.flatten.Nodup
  | [], _, _, _, _, _, h => by
    obtain ⟨rfl, rfl, rfl⟩ := h
    exact List.nodup_nil
  | k :: ks, _, _, _, _, o, h => by
    obtain ⟨d, ds', v, vs', F, FF', rfl, rfl, rfl, h4, h5, h6, h7⟩ := h
    have hk := o k List.mem_cons_self
    subst hk
    rw [List.flatten_cons, List.nodup_append]
    refine ⟨h5.1, h7.nodup fun k hk => o k (List.mem_cons_of_mem _ hk), fun a ha b hb e => ?_⟩
    subst e
    obtain ⟨B, hB, hb⟩ := List.mem_flatten.mp hb
    obtain ⟨j, hj, e⟩ := List.mem_iff_getElem.mp hB
    exact h6 j B (by rw [← e]; exact List.getElem?_eq_getElem hj) (.inl rfl) a ha hb
end
def PrimF (G : Gb) (r : List V → Hp → VK → Prop) (p : List D → Option D) : Prop := ∀ (H : Hp) (vs : List V) (ds : List D) (F : List Addr) (Q : VK) (d : D), (∀ T ∈ G.tabs, TabG H T) → RdsL G H ds vs F → p ds = some d →
  (∀ v H' A, Rds G H' d v A → A.Nodup → (∀ a ∈ A, H a = none) → Chg No H H' → Q v H') → r vs H Q
def PrimV (G : Gb) (r : List V → Hp → VK → Prop) (p : List D → Option D) : Prop := ∀ (H : Hp) (vs : List V) (ds : List D) (F : List Addr) (Q : VK) (d : D), (∀ T ∈ G.tabs, TabG H T) → RdsL G H ds vs F → p ds = some d →
  (∀ v H' A, Rds G H' d v A → (F.Nodup → A.Nodup) → (∀ a ∈ A, a ∈ F ∨ H a = none) → (∀ a t, d.node = true → A = a :: t → H a = none) → Chg No H H' → Q v H') → r vs H Q
theorem PrimF.v {G : Gb} {r : List V → Hp → VK → Prop} {p : List D → Option D} (h : PrimF G r p) : PrimV G r p := fun H vs ds F Q d t rd e q =>
  h H vs ds F Q d t rd e fun v H' A r1 nd nw c => q v H' A r1 (fun _ => nd) (fun a ha => .inr (nw a ha)) (fun a t _ e => nw a (by rw [e]; exact List.mem_cons_self)) c
def PrimE (G : Gb) (r : List V → Hp → VK → Prop) (p : List D → Option D) : Prop := ∀ (H : Hp) (d1 : D) (v1 : V) (F1 : List Addr) (vs : List V) (ds : List D) (F : List Addr) (Q : VK) (d : D), (∀ T ∈ G.tabs, TabG H T) → Rds G H d1 v1 F1 → RdsL G H ds vs F → p (d1 :: ds) = some d →
  (∀ v H' A, Rds G H' d v A → A.Sublist F1 → Chg No H H' → Q v H') → r (v1 :: vs) H Q
def ePrim (p : List D → Option D) (l : LF) : EF := fun E => match l E with
  | some (ds, E') => (match p ds with
    | some d => some (d, E')
    | none => none)
  | none => none
def kTop (ks : List Kind) : Kind := if ks.all (fun k => decide (k = Kind.own)) then .own else .top (ks.map Kind.S).flatten
section
variable {G : Gb} {M : List Nat} {ks : List Kind} {l : LF} {p : List D → Option D} {r : List V → Hp → VK → Prop} {σ : L2.St} {H : Hp} {Q : VK}
theorem ePrim_some {E E' : Env} {d : D} (h : ePrim p l E = some (d, E')) : ∃ ds, l E = some (ds, E') ∧ p ds = some d := by
  unfold ePrim at h
  cases e : l E with
  | none => rw [e] at h; cases h
  | some x =>
    obtain ⟨ds, E1⟩ := x
    rw [e] at h
    dsimp only at h
    cases e2 : p ds with
    | none => rw [e2] at h; cases h
    | some d' =>
      rw [e2] at h
      cases h
      exact ⟨ds, rfl, e2⟩
section
variable {C : Ctx} {E E' : Env} {Fs Fs2 : Nat → List Addr} {H2 : Hp} {ds : List D} {vs : List V} {FF : List (List Addr)} {d : D}
theorem fin_own (P : PrimF G r p) (R2 : Rel G C H2 σ E' Fs2) (s2 : Stp M H H2 E E' Fs Fs2) (a2 : RdsL G H2 ds vs FF.flatten) (e2 : p ds = some d)
    (q : ∀ v H' Fs' F, Rel G C H' σ E' Fs' → Stp M H H' E E' Fs Fs' → Rds G H' d v F → KOk σ H E' Fs' .own d v F → Q v H') : r vs H2 Q := by
  refine P H2 vs ds _ Q d R2.tb a2 e2 fun v H3 A rA nd nw c => ?_
  refine q v H3 Fs2 A (R2.chg c) ((s2.trans (Stp.of (M := []) c)).mono fun i hi => by simpa using hi) rA ⟨nd, fun a ha => .inr ?_⟩
  have z := R2.loose (nw a ha)
  exact ⟨s2.chg.back z.1, z.2⟩
theorem fin_top (P : PrimV G r p) (R2 : Rel G C H2 σ E' Fs2) (s2 : Stp M H H2 E E' Fs Fs2) (a2 : ArgsOk G σ H H2 E' Fs2 ks ds vs FF) (e2 : p ds = some d)
    (q : ∀ v H' Fs' F, Rel G C H' σ E' Fs' → Stp M H H' E E' Fs Fs' → Rds G H' d v F → KOk σ H E' Fs' (kTop ks) d v F → Q v H') : r vs H2 Q := by
  refine P H2 vs ds _ Q d R2.tb a2.rds e2 fun v H3 A rA nd nw tp c => ?_
  refine q v H3 Fs2 A (R2.chg c) ((s2.trans (Stp.of (M := []) c)).mono fun i hi => by simpa using hi) rA ?_
  have vw : Vw H E' Fs2 (ks.map Kind.S).flatten A := fun a ha => by
    rcases nw a ha with z | z
    · exact a2.vw a z
    · have z := R2.loose z
      exact .inr ⟨s2.chg.back z.1, z.2⟩
  unfold kTop
  by_cases hk : (ks.all fun k => decide (k = Kind.own)) = true
  · rw [if_pos hk]
    have hk' : ∀ k ∈ ks, k = Kind.own := fun k hk1 => of_decide_eq_true (List.all_eq_true.mp hk k hk1)
    have e0 : (ks.map Kind.S).flatten = [] := by
      rw [List.flatten_eq_nil_iff]
      intro l hl
      obtain ⟨k, h1, rfl⟩ := List.mem_map.mp hl
      rw [hk' k h1]
      rfl
    rw [e0] at vw
    exact ⟨nd (a2.nodup hk'), vw⟩
  · rw [if_neg hk]
    refine ⟨vw, fun a t n e => ?_⟩
    have z := R2.loose (tp a t n e)
    exact ⟨s2.chg.back z.1, z.2⟩
def kPart : List Kind → Kind
  | .own :: _ => .own
  | .sub i :: _ => .sub i
  | .top S :: _ => .vw S
  | .vw S :: _ => .vw S
  | .ref i :: _ => .sub i
  | [] => .own
theorem fin_part {k : Kind} (P : PrimE G r p) (R2 : Rel G C H2 σ E' Fs2) (s2 : Stp M H H2 E E' Fs Fs2) (a2 : ArgsOk G σ H H2 E' Fs2 (k :: ks) ds vs FF) (e2 : p ds = some d)
    (q : ∀ v H' Fs' F, Rel G C H' σ E' Fs' → Stp M H H' E E' Fs Fs' → Rds G H' d v F → KOk σ H E' Fs' (kPart (k :: ks)) d v F → Q v H') : r vs H2 Q := by
  obtain ⟨d1, ds', v1, vs', F1, FF', rfl, rfl, rfl, h4, h5, h6, h7⟩ := a2
  refine P H2 d1 v1 F1 vs' ds' _ Q d R2.tb h4 h7.rds e2 fun v H3 A rA sb c => ?_
  refine q v H3 Fs2 A (R2.chg c) ((s2.trans (Stp.of (M := []) c)).mono fun i hi => by simpa using hi) rA ?_
  have vw : Vw H E' Fs2 k.S A := fun a ha => h5.vw a (sb.subset ha)
  cases k with
  | own => exact ⟨sb.nodup h5.1, vw⟩
  | sub i => exact ⟨h5.1, sb.trans h5.2⟩
  | top S => exact vw
  | vw S => exact vw
  | ref i =>
    obtain ⟨m, e, _, rfl⟩ := h5
    exact ⟨⟨_, _, e⟩, sb⟩
end
theorem prim_own (P : PrimF G r p) (h : tV G M .own (ePrim p l) σ H Q) : tVL G M ks l σ H fun vs H2 => r vs H2 Q := by
  obtain ⟨C, E, Fs, R, d, E', e, q⟩ := h
  obtain ⟨ds, e1, e2⟩ := ePrim_some e
  exact ⟨C, E, Fs, R, ds, E', e1, fun vs H2 Fs2 FF R2 s2 a2 => fin_own P R2 s2 a2.rds e2 q⟩
theorem prim_top (P : PrimV G r p) (h : tV G M (kTop ks) (ePrim p l) σ H Q) : tVL G M ks l σ H fun vs H2 => r vs H2 Q := by
  obtain ⟨C, E, Fs, R, d, E', e, q⟩ := h
  obtain ⟨ds, e1, e2⟩ := ePrim_some e
  exact ⟨C, E, Fs, R, ds, E', e1, fun vs H2 Fs2 FF R2 s2 a2 => fin_top P R2 s2 a2 e2 q⟩
theorem prim_part {k : Kind} (P : PrimE G r p) (h : tV G M (kPart (k :: ks)) (ePrim p l) σ H Q) : tVL G M (k :: ks) l σ H fun vs H2 => r vs H2 Q := by
  obtain ⟨C, E, Fs, R, d, E', e, q⟩ := h
  obtain ⟨ds, e1, e2⟩ := ePrim_some e
  exact ⟨C, E, Fs, R, ds, E', e1, fun vs H2 Fs2 FF R2 s2 a2 => fin_part P R2 s2 a2 e2 q⟩
end
end
end VL
set_option maxHeartbeats 4000000
namespace VL
noncomputable section
open PySem PySem.Spec PyProof.Rows L2
open GxR (TabB Tabbed)
variable [LamT]
section
variable {G : Gb} {H : Hp} {v : V} {F : List Addr}
theorem rds_non : Rds G H .non v F ↔ v = .non ∧ F = [] := by unfold Rds; exact Iff.rfl
theorem rds_bl {b : Bool} : Rds G H (.bl b) v F ↔ v = .bl b ∧ F = [] := by unfold Rds; exact Iff.rfl
theorem rds_int {i : Int} : Rds G H (.int i) v F ↔ v = .int i ∧ F = [] := by unfold Rds; exact Iff.rfl
theorem rds_str {s : Str} : Rds G H (.str s) v F ↔ v = .str s ∧ F = [] := by unfold Rds; exact Iff.rfl
theorem rds_tup {ds : List D} : Rds G H (.tup ds) v F ↔ ∃ a xs, v = .ref a ∧ SqT G.K H a xs ∧ RdsL G H ds xs F := by unfold Rds; exact Iff.rfl
theorem rds_lst {ds : List D} : Rds G H (.lst ds) v F ↔ ∃ a xs A, v = .ref a ∧ H a = some (.lst xs) ∧ RdsL G H ds xs A ∧ F = a :: A := by unfold Rds; exact Iff.rfl
theorem rds_dct {ks : List Key} {ds : List D} : Rds G H (.dct ks ds) v F ↔ ∃ a us A, v = .ref a ∧ H a = some (.dK us) ∧ (us.map (·.1) = ks ∧ ks.Nodup) ∧ RdsL G H ds (us.map (·.2)) A ∧ F = a :: A := by unfold Rds; exact Iff.rfl
theorem rds_scr {ns : List Int} : Rds G H (.scr ns) v F ↔ ∃ a, v = .ref a ∧ ScrAt G.K H a (ns.map V.int) ∧ F = [] := by unfold Rds; exact Iff.rfl
theorem rdsL_nil {vs : List V} : RdsL G H [] vs F ↔ vs = [] ∧ F = [] := by unfold RdsL; exact Iff.rfl
theorem rdsL_cons {d : D} {ds : List D} {vs : List V} : RdsL G H (d :: ds) vs F ↔ ∃ x r A B, vs = x :: r ∧ F = A ++ B ∧ Rds G H d x A ∧ RdsL G H ds r B := by
  rw [RdsL]
theorem rdsL1 {d : D} {vs : List V} (h : RdsL G H [d] vs F) : ∃ x, vs = [x] ∧ Rds G H d x F := by
  obtain ⟨x, r, A, B, rfl, rfl, h1, h2⟩ := rdsL_cons.mp h
  obtain ⟨rfl, rfl⟩ := rdsL_nil.mp h2
  exact ⟨x, rfl, by rw [List.append_nil]; exact h1⟩
theorem rdsL2 {d e : D} {vs : List V} (h : RdsL G H [d, e] vs F) : ∃ x y A B, vs = [x, y] ∧ F = A ++ B ∧ Rds G H d x A ∧ Rds G H e y B := by
  obtain ⟨x, r, A, B, rfl, rfl, h1, h2⟩ := rdsL_cons.mp h
  obtain ⟨y, rfl, h3⟩ := rdsL1 h2
  exact ⟨x, y, A, B, rfl, rfl, h1, h3⟩
theorem rdsL_len : ∀ {ds : List D} {vs : List V} {F : List Addr}, RdsL G H ds vs F → vs.length = ds.length
  | [], _, _, h => by rw [(rdsL_nil.mp h).1]; rfl
  | d :: ds, _, _, h => by
    obtain ⟨x, r, A, B, rfl, rfl, h1, h2⟩ := rdsL_cons.mp h
    rw [List.length_cons, List.length_cons, rdsL_len h2]
theorem rdsL_app : ∀ {ds es : List D} {vs us : List V} {A B : List Addr}, RdsL G H ds vs A → RdsL G H es us B → RdsL G H (ds ++ es) (vs ++ us) (A ++ B)
  | [], _, _, _, _, _, h, h' => by
    obtain ⟨rfl, rfl⟩ := rdsL_nil.mp h
    exact h'
  | d :: ds, es, _, us, _, B, h, h' => by
    obtain ⟨x, r, A1, A2, rfl, rfl, h1, h2⟩ := rdsL_cons.mp h
    exact rdsL_cons.mpr ⟨x, r ++ us, A1, A2 ++ B, rfl, by rw [List.append_assoc], h1, rdsL_app h2 h'⟩
theorem rdsL_get : ∀ {ds : List D} {vs : List V} {F : List Addr} {i : Nat} {d : D}, RdsL G H ds vs F → ds[i]? = some d → ∃ x A, vs[i]? = some x ∧ Rds G H d x A ∧ A.Sublist F
  | [], _, _, i, d, h, e => by simp at e
  | d' :: ds, _, _, i, d, h, e => by
    obtain ⟨x, r, A, B, rfl, rfl, h1, h2⟩ := rdsL_cons.mp h
    cases i with
    | zero =>
      simp at e
      subst e
      exact ⟨x, A, rfl, h1, List.sublist_append_left ..⟩
    | succ i =>
      obtain ⟨y, A', h3, h4, h5⟩ := rdsL_get h2 (by simpa using e)
      exact ⟨y, A', by simpa using h3, h4, h5.trans (List.sublist_append_right ..)⟩
theorem rdsL_ints : ∀ {ns : List Int} {vs : List V} {F : List Addr}, RdsL G H (ns.map D.int) vs F → vs = ns.map V.int ∧ F = []
  | [], _, _, h => rdsL_nil.mp h
  | n :: ns, _, _, h => by
    obtain ⟨x, r, A, B, rfl, rfl, h1, h2⟩ := rdsL_cons.mp h
    obtain ⟨rfl, rfl⟩ := rds_int.mp h1
    obtain ⟨rfl, rfl⟩ := rdsL_ints h2
    exact ⟨rfl, rfl⟩
theorem rdsL_mk_ints : ∀ (ns : List Int), RdsL G H (ns.map D.int) (ns.map V.int) []
  | [] => rdsL_nil.mpr ⟨rfl, rfl⟩
  | n :: ns => rdsL_cons.mpr ⟨_, _, [], [], rfl, rfl, rds_int.mpr ⟨rfl, rfl⟩, rdsL_mk_ints ns⟩
end
mutual
def D.py : D → Option PyData
  | .non => some .none
  | .bl b => some (.bool b)
  | .int i => some (.int i)
  | .str s => some (.str s)
  | .tup ds => (D.pyL ds).map .tuple
  | .lst ds => (D.pyL ds).map .list
  | .scr ns => some (.list (ns.map .int))
  | .dct _ _ => none
  | .obj _ _ _ => none
  | .any => none
  | .exn _ _ _ => none
def D.pyL : List D → Option (List PyData)
  | [] => some []
  | d :: ds => match d.py, D.pyL ds with
    | some p, some ps => some (p :: ps)
    | _, _ => none
end
section
variable {G : Gb} {H : Hp}
theorem dp_ints {K : PySem.W.Frag} : ∀ ns : List Int, DpAll K H (ns.map V.int) (ns.map PyData.int)
  | [] => .nil
  | n :: ns => .cons (.int n) (dp_ints ns)
mutual
theorem Rds.dp : ∀ (d : D) (v : V) (F : List Addr) (p : PyData), d.py = some p → Rds G H d v F → Dp G.K H v p
  | .non, v, F, p, e, h => by
    rw [D.py] at e
    cases e
    rw [(rds_non.mp h).1]
    exact .non
  | .bl b, v, F, p, e, h => by
    rw [D.py] at e
    cases e
    rw [(rds_bl.mp h).1]
    exact .bl b
  | .int i, v, F, p, e, h => by
    rw [D.py] at e
    cases e
    rw [(rds_int.mp h).1]
    exact .int i
  | .str s, v, F, p, e, h => by
    rw [D.py] at e
    cases e
    rw [(rds_str.mp h).1]
    exact .str s
  | .tup ds, v, F, p, e, h => by
    rw [D.py] at e
    cases e1 : D.pyL ds with
    | none => rw [e1] at e; cases e
    | some ps =>
      rw [e1] at e
      cases e
      obtain ⟨a, xs, rfl, h1, h2⟩ := rds_tup.mp h
      exact .tup h1 (RdsL.dp ds xs F ps e1 h2)
  | .lst ds, v, F, p, e, h => by
    rw [D.py] at e
    cases e1 : D.pyL ds with
    | none => rw [e1] at e; cases e
    | some ps =>
      rw [e1] at e
      cases e
      obtain ⟨a, xs, A, rfl, h1, h2, rfl⟩ := rds_lst.mp h
      exact .lst (SqL.of h1) (RdsL.dp ds xs A ps e1 h2)
  | .scr ns, v, F, p, e, h => by
    rw [D.py] at e
    cases e
    obtain ⟨a, rfl, h1, _⟩ := rds_scr.mp h
    exact .lst h1.sql (dp_ints ns)
  | .dct _ _, v, F, p, e, h => by rw [D.py] at e; cases e
  | .obj _ _ _, v, F, p, e, h => by rw [D.py] at e; cases e
  | .any, _, _, _, e, _ => by rw [D.py] at e; cases e
  | .exn _ _ _, _, _, _, e, _ => by rw [D.py] at e; cases e
theorem RdsL.dp : ∀ (ds : List D) (vs : List V) (F : List Addr) (ps : List PyData), D.pyL ds = some ps → RdsL G H ds vs F → DpAll G.K H vs ps
  | [], vs, F, ps, e, h => by
    rw [D.pyL] at e
    cases e
    rw [(rdsL_nil.mp h).1]
    exact .nil
  | d :: ds, vs, F, ps, e, h => by
    rw [D.pyL] at e
    obtain ⟨x, r, A, B, rfl, rfl, h1, h2⟩ := rdsL_cons.mp h
    cases e1 : d.py with
    | none => rw [e1] at e; cases e
    | some p =>
      cases e2 : D.pyL ds with
      | none => rw [e1, e2] at e; cases e
      | some ps' =>
        rw [e1, e2] at e
        cases e
        exact .cons (Rds.dp d x A p e1 h1) (RdsL.dp ds r B ps' e2 h2)
end
end
structure XOk (G : Gb) (X : Cx) : Prop where
  K : X.K = G.K
  calm : X.calm = true
  un : X.A.units + 70 < cLine
section
variable {G : Gb} {X : Cx} {a b c e : Expr} {es : List Expr} {M M' M2 : List Nat} {k k' k2 : Kind} {ks : List Kind} {f g h : EF} {l : LF} {p : List D → Option D} {pos : Pos} {σ : L2.St} {H : Hp}
theorem safe_nil (k : Kind) : k.safe [] = true := by
  unfold Kind.safe
  exact List.all_eq_true.mpr fun i _ => rfl
theorem nil_of {R : List V → Hp → Prop} (h : tVL G [] [] lNil σ H R) : R [] H := by
  obtain ⟨C, E, Fs, R, ds, E', e, q⟩ := h
  cases e
  exact q [] H Fs [] R Stp.refl ⟨rfl, rfl, rfl⟩
theorem tV.mono {Q Q' : VK} (h : tV G M k f σ H Q) (i : ∀ v H, Q v H → Q' v H) : tV G M k f σ H Q' := by
  obtain ⟨C, E, Fs, R, d, E', e, q⟩ := h
  exact ⟨C, E, Fs, R, d, E', e, fun v H' Fs' F h1 h2 h3 h4 => i _ _ (q v H' Fs' F h1 h2 h3 h4)⟩
theorem tVL.mono {Q Q' : List V → Hp → Prop} (h : tVL G M ks l σ H Q) (i : ∀ v H, Q v H → Q' v H) : tVL G M ks l σ H Q' := by
  obtain ⟨C, E, Fs, R, d, E', e, q⟩ := h
  exact ⟨C, E, Fs, R, d, E', e, fun v H' Fs' F h1 h2 h3 => i _ _ (q v H' Fs' F h1 h2 h3)⟩
theorem one_of {R : List V → Hp → Prop} (h : tVL G M [k] (lCons f lNil) σ H R) : tV G M k f σ H fun x H1 => R [x] H1 := by
  have h' : tVL G (M ++ []) [k] (lCons f lNil) σ H R := by rw [List.append_nil]; exact h
  exact (seq_cons (safe_nil k) h').mono fun x H1 q => nil_of q
theorem two_of {R : List V → Hp → Prop} (sf : k.safe M' = true) (h : tVL G (M ++ M') [k, k'] (lCons f (lCons g lNil)) σ H R) : tV G M k f σ H fun x H1 => tV G M' k' g σ H1 fun y H2 => R [x, y] H2 :=
  (seq_cons sf h).mono fun x H1 q => one_of q
def eVar (i : Nat) : EF := fun E => match E[i]? with
  | some (some (_, d)) => some (d, E)
  | _ => none
def eC (d : D) : EF := fun E => some (d, E)
theorem ve_var {i : Nat} (h : PE X e (tVar i)) : VE G X e [] (.sub i) (eVar i) := PE.imp h fun σ H Q ⟨C, E, Fs, R, d, E', e, q⟩ => by
  unfold eVar at e
  split at e
  · rename_i m d' e1
    cases e
    obtain ⟨v, h1, h2, _⟩ := R.rd i m _ e1
    exact ⟨v, h1, q v H Fs _ R Stp.refl h2 ⟨⟨_, _, e1⟩, List.Sublist.refl _⟩⟩
  · cases e
theorem ve_c {d : D} {v : V} (h : PE X e (tC v)) (hd : ∀ G H, Rds G H d v []) : VE G X e [] .own (eC d) := PE.imp h fun σ H Q ⟨C, E, Fs, R, d', E', e, q⟩ => by
  cases e
  exact q v H Fs [] R Stp.refl (hd _ _) ⟨List.nodup_nil, fun a ha => by cases ha⟩
theorem ve_int {i : Int} {j} : VE G X (.Constant (.int i) j pos) [] .own (eC (.int i)) := ve_c pe_int fun _ _ => rds_int.mpr ⟨rfl, rfl⟩
theorem ve_bl {i : Bool} {j} : VE G X (.Constant (.bool i) j pos) [] .own (eC (.bl i)) := ve_c pe_bl fun _ _ => rds_bl.mpr ⟨rfl, rfl⟩
theorem ve_non {j} : VE G X (.Constant .none j pos) [] .own (eC .non) := ve_c pe_non fun _ _ => rds_non.mpr ⟨rfl, rfl⟩
def r2 (r : R2) : List V → Hp → VK → Prop := fun vs H Q => ∃ x y, vs = [x, y] ∧ r x y H Q
theorem r2_of {r : R2} {x y : V} {Q : VK} (h : r2 r [x, y] H Q) : r x y H Q := by
  obtain ⟨_, _, e, q⟩ := h
  cases e
  exact q
theorem ve_op {op : Operator} {r : R2} (ho : OpR X (binaryOp op) r) (P : PrimF G (r2 r) p) (ha : VE G X a M k f) (hb : VE G X b M' k' g) (sf : k.safe M' = true := by rfl) : VE G X (.BinOp a op b pos) (M ++ M') .own (ePrim p (lCons f (lCons g lNil))) :=
  PE.imp (pe_op ho ha hb) fun σ H Q h => (two_of sf (prim_own P h)).mono fun x H1 q => q.mono fun y H2 q => r2_of q
theorem ve_opV {op : Operator} {r : R2} (ho : OpR X (binaryOp op) r) (P : PrimV G (r2 r) p) (ha : VE G X a M k f) (hb : VE G X b M' k' g) (sf : k.safe M' = true := by rfl) : VE G X (.BinOp a op b pos) (M ++ M') (kTop [k, k']) (ePrim p (lCons f (lCons g lNil))) :=
  PE.imp (pe_op ho ha hb) fun σ H Q h => (two_of sf (prim_top P h)).mono fun x H1 q => q.mono fun y H2 q => r2_of q
theorem ve_cmp {op : CmpOp} {r : R2} (ho : OpR X (compareOp op) r) (P : PrimF G (r2 r) p) (ha : VE G X a M k f) (hb : VE G X b M' k' g) (hm : behindInMarks op b = false) (sf : k.safe M' = true := by rfl) : VE G X (.Compare a [op] [b] pos) (M ++ M') .own (ePrim p (lCons f (lCons g lNil))) :=
  PE.imp (pe_cmpR ho ha hb hm) fun σ H Q h => (two_of sf (prim_own P h)).mono fun x H1 q => q.mono fun y H2 q => r2_of q
theorem ve_un {op : UnaryOp} {r : V → Hp → VK → Prop} (ho : UnR X (unaryOp op) r) (P : PrimF G (fun vs H Q => ∃ x, vs = [x] ∧ r x H Q) p) (ha : VE G X a M k f) : VE G X (.UnaryOp op a pos) M .own (ePrim p (lCons f lNil)) :=
  PE.imp (pe_un ho ha) fun σ H Q h => (one_of (prim_own P h)).mono fun x H1 ⟨y, e, q⟩ => by cases e; exact q
theorem ve_ix {r : R2} (hr : IxR X r) (P : PrimE G (r2 r) p) (ha : VE G X a M k f) (hb : VE G X b M' k' g) (hs : PlainIx b := by intro _ _; rfl) (sf : k.safe M' = true := by rfl) : VE G X (.Subscript a b pos) (M ++ M') (kPart [k, k']) (ePrim p (lCons f (lCons g lNil))) :=
  PE.imp (pe_ix hr ha hb hs) fun σ H Q h => (two_of sf (prim_part P h)).mono fun x H1 q => q.mono fun y H2 q => r2_of q
theorem ve_callB {id : String} {x : Str} {q : Pos} {r : List V → Hp → VK → Prop} (hc : CallR X (.builtin id) r) (P : PrimF G r p) (hg : Gl X x) (hm : X.mg x = none) (hv : bootBuiltins x = some (.builtin id)) (ha : VL G X (e :: es) M ks l)
    (hn : x ≠ "__name__" := by decide) (hdb : (x == ("__debug__" : Str)) = false := by decide) (he : starEach (e :: es) X.env = (false, eval e X.env) :: starEach es X.env := by rfl) (hpl : (backTo pos (starEach es X.env)).any (·.1) = false := by rfl) :
    VE G X (.Call (.Name x q) (e :: es) [] pos) M .own (ePrim p l) :=
  PE.imp (pe_callB hc hg hm hv ha hn hdb he hpl) fun σ H Q h => prim_own P h
theorem ve_callTy {T : String} {x : Str} {q : Pos} {r : List V → Hp → VK → Prop} (hc : CallR X (.type T) r) (P : PrimV G r p) (hg : Gl X x) (hm : X.mg x = none) (hv : bootBuiltins x = some (.type T)) (ha : VL G X (e :: es) M ks l)
    (hn : x ≠ "__name__" := by decide) (hdb : (x == ("__debug__" : Str)) = false := by decide) (he : starEach (e :: es) X.env = (false, eval e X.env) :: starEach es X.env := by rfl) (hpl : (backTo pos (starEach es X.env)).any (·.1) = false := by rfl) :
    VE G X (.Call (.Name x q) (e :: es) [] pos) M (kTop ks) (ePrim p l) :=
  PE.imp (pe_callTy hc hg hm hv ha hn hdb he hpl) fun σ H Q h => prim_top P h
def pTup : List D → Option D := fun ds => if sl (decide (ds.length ≤ sizeLine)) then some (.tup ds) else none
def pLst : List D → Option D := fun ds => if sl (decide (ds.length ≤ sizeLine)) then some (.lst ds) else none
theorem prim_tup : PrimV G (fun xs H Q => xs.length ≤ sizeLine ∧ ∀ p, H p = none → Q (.ref p) (upd H p (.tup xs))) pTup := fun H vs ds F Q d tb r e q => by
  unfold pTup at e
  split at e
  · rename_i hl
    replace hl := sl_iff.mp hl
    cases e
    refine ⟨by rw [rdsL_len r]; exact hl, fun p np => ?_⟩
    have c : Chg No H (upd H p (.tup vs)) := Chg.new np
    exact q _ _ F (rds_tup.mpr ⟨p, vs, rfl, SqT.of upd_same, RdsL.chg c ds vs F (fun _ _ z => z) r⟩) id (fun a ha => .inl ha) (fun a t n => by cases n) c
  · cases e
theorem prim_lst : PrimV G (fun xs H Q => xs.length ≤ sizeLine ∧ ∀ p, H p = none → Q (.ref p) (upd H p (.lst xs))) pLst := fun H vs ds F Q d tb r e q => by
  unfold pLst at e
  split at e
  · rename_i hl
    replace hl := sl_iff.mp hl
    cases e
    refine ⟨by rw [rdsL_len r]; exact hl, fun p np => ?_⟩
    have c : Chg No H (upd H p (.lst vs)) := Chg.new np
    have nF : p ∉ F := fun hp => by
      obtain ⟨o, eo, _⟩ := RdsL.trk ds vs F r p hp
      rw [np] at eo
      cases eo
    refine q _ _ (p :: F) (rds_lst.mpr ⟨p, vs, F, rfl, upd_same, RdsL.chg c ds vs F (fun _ _ z => z) r, rfl⟩) (fun nd => List.nodup_cons.mpr ⟨nF, nd⟩) (fun a ha => ?_) (fun a t n e => ?_) c
    · rcases List.mem_cons.mp ha with rfl | ha
      · exact .inr np
      · exact .inl ha
    · cases e
      exact np
  · cases e
theorem ve_tup {x1} (h : VL G X es M ks l) : VE G X (.Tuple es x1 pos) M (kTop ks) (ePrim pTup l) := PE.imp (pe_tup h) fun σ H Q h => prim_top prim_tup h
theorem ve_lst (h : VL G X es M ks l) : VE G X (.List es pos) M (kTop ks) (ePrim pLst l) := PE.imp (pe_lst h) fun σ H Q h => prim_top prim_lst h
abbrev TF := Env → Option (Bool × Env)
def tVT (G : Gb) (M : List Nat) (f : TF) : TT := fun σ H Q => ∃ C E Fs, Rel G C H σ E Fs ∧ ∃ b E', f E = some (b, E') ∧ ∀ H' Fs', Rel G C H' σ E' Fs' → Stp M H H' E E' Fs Fs' → Q b H'
abbrev VT (G : Gb) (X : Cx) (e : Expr) (M : List Nat) (f : TF) : Prop := PT X e (tVT G M f)
abbrev VW (G : Gb) (X : Cx) (e : Expr) (M : List Nat) (f : TF) : Prop := PW X e (tVT G M f)
def toT (f : EF) : TF := fun E => match f E with
  | some (.bl b, E') => some (b, E')
  | _ => none
theorem tV_of_T {Q : Bool → Hp → Prop} (h : tVT G M (toT f) σ H Q) : tV G M k f σ H fun x H' => ∃ b, x = .bl b ∧ Q b H' := by
  obtain ⟨C, E, Fs, R, b, E', e, q⟩ := h
  unfold toT at e
  split at e
  · rename_i b' E1 e1
    cases e
    exact ⟨C, E, Fs, R, _, _, e1, fun v H' Fs' F R' s' r' _ => ⟨b, (rds_bl.mp r').1, q H' Fs' R' s'⟩⟩
  · cases e
theorem vt_cmp {op : CmpOp} {r : R2} (ho : OpR X (compareOp op) r) (P : PrimF G (r2 r) p) (ha : VE G X a M k f) (hb : VE G X b M' k' g) (hm : behindInMarks op b = false) (sf : k.safe M' = true := by rfl) : VT G X (.Compare a [op] [b] pos) (M ++ M') (toT (ePrim p (lCons f (lCons g lNil)))) :=
  PT.imp (pt_cmpR ho ha hb hm) fun σ H Q h => (two_of sf (prim_own P (tV_of_T h))).mono fun x H1 q => q.mono fun y H2 q => r2_of q
def tfAnd (f g : TF) : TF := fun E => match f E with
  | some (true, E') => g E'
  | some (false, E') => some (false, E')
  | none => none
def tfOr (f g : TF) : TF := fun E => match f E with
  | some (false, E') => g E'
  | some (true, E') => some (true, E')
  | none => none
def tfNot (f : TF) : TF := fun E => match f E with
  | some (b, E') => some (!b, E')
  | none => none
variable {t u : TF} {rest : List Expr}
theorem and_of {Q : Bool → Hp → Prop} (h : tVT G (M ++ M') (tfAnd t u) σ H Q) : tAnd (tVT G M t) (tVT G M' u) σ H Q := by
  obtain ⟨C, E, Fs, R, b, E', e, q⟩ := h
  unfold tfAnd at e
  split at e
  · rename_i E1 e1
    refine ⟨C, E, Fs, R, true, E1, e1, fun H' Fs' R' s' => ?_⟩
    refine ite_tt ?_
    exact ⟨C, E1, Fs', R', b, E', e, fun H2 Fs2 R2 s2 => q H2 Fs2 R2 (s'.trans s2)⟩
  · rename_i E1 e1
    cases e
    exact ⟨C, E, Fs, R, false, _, e1, fun H' Fs' R' s' => q H' Fs' R' (s'.mono fun i hi => List.mem_append_left _ hi)⟩
  · cases e
theorem or_of {Q : Bool → Hp → Prop} (h : tVT G (M ++ M') (tfOr t u) σ H Q) : tOr (tVT G M t) (tVT G M' u) σ H Q := by
  obtain ⟨C, E, Fs, R, b, E', e, q⟩ := h
  unfold tfOr at e
  split at e
  · rename_i E1 e1
    refine ⟨C, E, Fs, R, false, E1, e1, fun H' Fs' R' s' => ?_⟩
    refine ite_ff ?_
    exact ⟨C, E1, Fs', R', b, E', e, fun H2 Fs2 R2 s2 => q H2 Fs2 R2 (s'.trans s2)⟩
  · rename_i E1 e1
    cases e
    exact ⟨C, E, Fs, R, true, _, e1, fun H' Fs' R' s' => q H' Fs' R' (s'.mono fun i hi => List.mem_append_left _ hi)⟩
  · cases e
theorem PW.imp {X : Cx} {e : Expr} {t t' : TT} (h : PW X e t) (i : ∀ σ H Q, t' σ H Q → t σ H Q) : PW X e t' := ⟨fun w pins s σ H Q I q => h.run w pins s σ H Q I (i σ H Q q)⟩
theorem vw_and1 (h : VT G X a M t) : VW G X (.BoolOp .And [a] pos) M t := pw_and1 h
theorem vw_or1 (h : VT G X a M t) : VW G X (.BoolOp .Or [a] pos) M t := pw_or1 h
theorem vw_and (ha : VT G X a M t) (hb : VW G X (.BoolOp .And (b :: rest) pos) M' u) : VW G X (.BoolOp .And (a :: b :: rest) pos) (M ++ M') (tfAnd t u) := PW.imp (pw_and ha hb) fun σ H Q h => and_of h
theorem vw_or (ha : VT G X a M t) (hb : VW G X (.BoolOp .Or (b :: rest) pos) M' u) : VW G X (.BoolOp .Or (a :: b :: rest) pos) (M ++ M') (tfOr t u) := PW.imp (pw_or ha hb) fun σ H Q h => or_of h
theorem vt_w (h : VW G X e M t) : VT G X e M t := h.pt
theorem vt_not (h : VT G X a M t) : VT G X (.UnaryOp .Not a pos) M (tfNot t) := PT.imp (pt_not h) fun σ H Q ⟨C, E, Fs, R, b, E', e, q⟩ => by
  unfold tfNot at e
  split at e
  · rename_i b' E1 e1
    cases e
    exact ⟨C, E, Fs, R, b', _, e1, q⟩
  · cases e
def eIf (t : TF) (f g : EF) : EF := fun E => match t E with
  | some (true, E') => f E'
  | some (false, E') => g E'
  | none => none
def kIf (k k' : Kind) : Kind := if k = k' then k else match k, k' with
  | .own, .top S => .top S
  | .top S, .own => .top S
  | _, _ => .vw (k.S ++ k'.S)
theorem Vw.sup {H : Hp} {E : Env} {Fs : Nat → List Addr} {S S' : List Nat} {F : List Addr} (h : Vw H E Fs S F) (i : ∀ x ∈ S, x ∈ S') : Vw H E Fs S' F := fun a ha => by
  rcases h a ha with ⟨j, hj, z⟩ | z
  · exact .inl ⟨j, i j hj, z⟩
  · exact .inr z
theorem KOk.own_top {σ : L2.St} {v : V} {H : Hp} {E : Env} {Fs : Nat → List Addr} {S : List Nat} {d : D} {F : List Addr} (h : KOk σ H E Fs .own d v F) : KOk σ H E Fs (.top S) d v F :=
  ⟨h.2.sup (fun _ hx => by cases hx), fun a r n e => by
    rcases h.2 a (by rw [e]; exact List.mem_cons_self) with ⟨_, z, _⟩ | z
    · cases z
    · exact z⟩
theorem kIf_l {v : V} {H : Hp} {E : Env} {Fs : Nat → List Addr} {d : D} {F : List Addr} (h : KOk σ H E Fs k d v F) : KOk σ H E Fs (kIf k k') d v F := by
  unfold kIf
  split
  · exact h
  · cases k <;> cases k' <;> first | exact h.own_top | exact h | exact h.vw.sup (fun x hx => List.mem_append_left _ hx)
theorem kIf_r {v : V} {H : Hp} {E : Env} {Fs : Nat → List Addr} {d : D} {F : List Addr} (h : KOk σ H E Fs k' d v F) : KOk σ H E Fs (kIf k k') d v F := by
  unfold kIf
  split
  · rename_i e
    rw [e]
    exact h
  · cases k <;> cases k' <;> first | exact h.own_top | exact h | exact h.vw.sup (fun x hx => List.mem_append_right _ hx)
theorem ve_if (hc : VT G X c M t) (ha : VE G X a M' k f) (hb : VE G X b M2 k' g) : VE G X (.IfExp c a b pos) (M ++ (M' ++ M2)) (kIf k k') (eIf t f g) := PE.imp (pe_ifExp hc ha hb) fun σ H Q ⟨C, E, Fs, R, d, E', e, q⟩ => by
  unfold eIf at e
  split at e
  · rename_i E1 e1
    refine ⟨C, E, Fs, R, true, E1, e1, fun H1 Fs1 R1 s1 => ?_⟩
    refine ite_tt ?_
    exact ⟨C, E1, Fs1, R1, d, E', e, fun v H2 Fs2 F R2 s2 r2 k2 => q v H2 Fs2 F R2 ((s1.trans s2).mono fun i hi => by simp only [List.mem_append] at hi ⊢; rcases hi with z | z; exact .inl z; exact .inr (.inl z)) r2 (kIf_l (k2.base s1.chg))⟩
  · rename_i E1 e1
    refine ⟨C, E, Fs, R, false, E1, e1, fun H1 Fs1 R1 s1 => ?_⟩
    refine ite_ff ?_
    exact ⟨C, E1, Fs1, R1, d, E', e, fun v H2 Fs2 F R2 s2 r2 k2 => q v H2 Fs2 F R2 ((s1.trans s2).mono fun i hi => by simp only [List.mem_append] at hi ⊢; rcases hi with z | z; exact .inl z; exact .inr (.inr z)) r2 (kIf_r (k2.base s1.chg))⟩
  · cases e
end
end
end VL
set_option maxHeartbeats 4000000
namespace VL
noncomputable section
open PySem PySem.Spec PyProof.Rows L2
open GxR (TabB Tabbed)
variable [LamT]
section
variable {G : Gb} {X : Cx}
theorem ix_dict (hu : X.A.units + 1 < cLine) : IxR X (fun x y H Q => ∃ a v, x = .ref a ∧ DGet H a y (some v) ∧ Q v H) := by
  intro value slice pins s σ H x y v u Q I rx ry h hs
  obtain ⟨a, z, rfl, g, q⟩ := h
  cases rx
  unfold subscriptTail
  refine wpAny_bind ?_
  have hT := dict_typeIs I g
  rw [getitemInPython_of_ne hT.not_modules]
  refine wpAny_bind (wpAny_specialOf hT PySem.F.slot_dict_getitem.lookup ?_)
  have fin : wpAny (model X.prog X.w) X.A (subscripted slice false (.ref a) u) (fun r s₃ => wpAny (model X.prog X.w) X.A (letTemporaryGo value (.ref a) r >>= fun _ => pure r) (EP X pins σ Q) X.xe s₃) X.xe s := by
    rw [hs]
    exact wpAny_operating (d_getItem hu I g ry fun w' s3 I3 rw' => wpAny_bind (wpAny_letTemporaryGo (wpAny_pure ⟨z, H, I3, rw', q⟩)))
  first
    | exact wpAny_pure (wpAny_bind fin)
    | exact wpAny_bind (wpAny_pure (wpAny_bind fin))
    | exact wpAny_bind fin
theorem op_notInDict (hu : X.A.units + 1 < cLine) : OpR X (compareOp .NotIn) (fun y x H Q => ∃ a o, x = .ref a ∧ DGet H a y o ∧ Q (.bl (!o.isSome)) H) := by
  intro pins s σ H y x u v Q I ry rx h
  obtain ⟨a, o, rfl, g, q⟩ := h
  cases rx
  exact d_notIn hu I g ry fun s3 I3 => ⟨.bl (!o.isSome), H, I3, rfl, q⟩
def pI2 (c : Int → Int → Bool) (g : Int → Int → D) : List D → Option D
  | [.int i, .int j] => if sl (c i j) then some (g i j) else none
  | _ => none
theorem q_atom {H : Hp} {Q : VK} {d : D} {v : V} (r : ∀ G H, Rds G H d v []) (q : ∀ v H' A, Rds G H' d v A → A.Nodup → (∀ a ∈ A, H a = none) → Chg No H H' → Q v H') : Q v H :=
  q v H [] (r G H) List.nodup_nil (fun a ha => by cases ha) (Chg.refl _ _)
theorem prim_I2 {c : Int → Int → Bool} {Cp : Int → Int → Prop} {g : Int → Int → D} {gv : Int → Int → V} (hc : ∀ i j, c i j = true → Cp i j) (hg : ∀ i j G H, Rds G H (g i j) (gv i j) []) : PrimF G (r2 (rI Cp gv)) (pI2 c g) := fun H vs ds F Q d tb r e q => by
  unfold pI2 at e
  split at e
  · rename_i i j
    split at e
    · rename_i h
      rw [sl_eq] at h
      cases e
      obtain ⟨x, y, A, B, rfl, rfl, h1, h2⟩ := rdsL2 r
      exact ⟨x, y, rfl, i, j, (rds_int.mp h1).1, (rds_int.mp h2).1, hc i j h, q_atom (hg i j) q⟩
    · cases e
  · cases e
theorem prim_I20 {g : Int → Int → D} {gv : Int → Int → V} (hg : ∀ i j G H, Rds G H (g i j) (gv i j) []) : PrimF G (r2 (rI0 gv)) (pI2 (fun _ _ => true) g) := fun H vs ds F Q d tb r e q => by
  unfold pI2 at e
  split at e
  · rename_i i j
    simp only [sl_eq, if_true] at e
    cases e
    obtain ⟨x, y, A, B, rfl, rfl, h1, h2⟩ := rdsL2 r
    exact ⟨x, y, rfl, i, j, (rds_int.mp h1).1, (rds_int.mp h2).1, q_atom (hg i j) q⟩
  · cases e
theorem hInt (i : Int) : ∀ G H, Rds G H (.int i) (.int i) [] := fun _ _ => rds_int.mpr ⟨rfl, rfl⟩
theorem hBl (i : Bool) : ∀ G H, Rds G H (.bl i) (.bl i) [] := fun _ _ => rds_bl.mpr ⟨rfl, rfl⟩
abbrev pSub := pI2 (fun _ _ => true) fun i j => .int (i - j)
abbrev pFdiv := pI2 (fun _ j => decide (0 < j ∧ j < 1073741824)) fun i j => .int (i / j)
abbrev pMod := pI2 (fun _ j => decide (0 < j)) fun i j => .int (i % j)
abbrev pPow := pI2 (fun i j => decide (0 ≤ j ∧ j ≤ 1000000 ∧ i.natAbs < 2 ^ 64)) fun i j => .int (i ^ j.toNat)
abbrev pLt := pI2 (fun _ _ => true) fun i j => .bl (decide (i < j))
abbrev pGt := pI2 (fun _ _ => true) fun i j => .bl (decide (j < i))
abbrev pGe := pI2 (fun _ _ => true) fun i j => .bl (decide (j ≤ i))
theorem prim_sub : PrimF G (r2 (rI0 fun i j => .int (i - j))) pSub := prim_I20 fun _ _ => hInt _
theorem prim_fdiv : PrimF G (r2 (rI CDiv fun i j => .int (i / j))) pFdiv := prim_I2 (fun i j h => show 0 < j ∧ j < 1073741824 from of_decide_eq_true h) fun _ _ => hInt _
theorem prim_mod : PrimF G (r2 (rI (fun _ j => 0 < j) fun i j => .int (i % j))) pMod := prim_I2 (fun i j h => of_decide_eq_true h) fun _ _ => hInt _
theorem prim_pow : PrimF G (r2 (rI CPow fun i j => .int (i ^ j.toNat))) pPow := prim_I2 (fun i j h => show 0 ≤ j ∧ j ≤ 1000000 ∧ i.natAbs < 2 ^ 64 from of_decide_eq_true h) fun _ _ => hInt _
theorem prim_lt : PrimF G (r2 (rI0 fun i j => .bl (decide (i < j)))) pLt := prim_I20 fun _ _ => hBl _
theorem prim_gt : PrimF G (r2 (rI0 fun i j => .bl (decide (j < i)))) pGt := prim_I20 fun _ _ => hBl _
theorem prim_ge : PrimF G (r2 (rI0 fun i j => .bl (decide (j ≤ i)))) pGe := prim_I20 fun _ _ => hBl _
def pNeg : List D → Option D
  | [.int i] => some (.int (-i))
  | _ => none
theorem prim_neg : PrimF G (fun vs H Q => ∃ x, vs = [x] ∧ (rU fun i => .int (-i)) x H Q) pNeg := fun H vs ds F Q d tb r e q => by
  unfold pNeg at e
  split at e
  · rename_i i
    cases e
    obtain ⟨x, rfl, h1⟩ := rdsL1 r
    exact ⟨x, rfl, i, (rds_int.mp h1).1, q_atom (hInt _) q⟩
  · cases e
def pAdd : List D → Option D
  | [.int i, .int j] => some (.int (i + j))
  | [.lst xs, .lst ys] => if sl (decide (xs.length + ys.length ≤ sizeLine)) then some (.lst (xs ++ ys)) else none
  | [.str x, .str y] => if sl (decide (x.length + y.length ≤ sizeLine)) then some (.str (x ++ y)) else none
  | _ => none
abbrev rAddAll : R2 := fun x y H Q => (rI0 fun i j => .int (i + j)) x y H Q ∨ (rCat x y H Q ∨ ∃ i j, x = .str i ∧ y = .str j ∧ i.length + j.length ≤ sizeLine ∧ Q (.str (i ++ j)) H)
theorem op_addAll : OpR X (binaryOp .Add) rAddAll := op_add.or (op_cat.or op_add_str)
theorem prim_add : PrimV G (r2 rAddAll) pAdd := fun H vs ds F Q d tb r e q => by
  unfold pAdd at e
  split at e
  · cases e
    obtain ⟨x, y, A, B, rfl, rfl, h1, h2⟩ := rdsL2 r
    exact ⟨x, y, rfl, .inl ⟨_, _, (rds_int.mp h1).1, (rds_int.mp h2).1, q _ H [] (hInt _ _ _) (fun _ => List.nodup_nil) (fun a ha => by cases ha) (fun a t n => by cases n) (Chg.refl _ _)⟩⟩
  · split at e
    · rename_i xs ys hl
      replace hl := sl_iff.mp hl
      cases e
      obtain ⟨x, y, A, B, rfl, rfl, h1, h2⟩ := rdsL2 r
      obtain ⟨a, us, A', rfl, h3, h4, rfl⟩ := rds_lst.mp h1
      obtain ⟨b, ws, B', rfl, h5, h6, rfl⟩ := rds_lst.mp h2
      refine ⟨_, _, rfl, .inr (.inl ⟨a, b, us, ws, rfl, rfl, h3, h5, by rw [rdsL_len h4, rdsL_len h6]; exact hl, fun p np => ?_⟩)⟩
      have c : Chg No H (upd H p (.lst (us ++ ws))) := Chg.new np
      have nt : ∀ z, z ∈ A' ++ B' → p ≠ z := fun z hz e => by
        obtain ⟨o, eo, _⟩ := RdsL.trk _ _ _ (rdsL_app h4 h6) z hz
        rw [← e, np] at eo
        cases eo
      refine q _ _ (p :: (A' ++ B')) (rds_lst.mpr ⟨p, _, _, rfl, upd_same, RdsL.chg c _ _ _ (fun _ _ z => z) (rdsL_app h4 h6), rfl⟩) (fun nd => ?_) (fun z hz => ?_) (fun z t n e => ?_) c
      · have sb : (A' ++ B').Sublist (a :: A' ++ b :: B') := by
          refine List.Sublist.append (List.sublist_cons_self ..) (List.sublist_cons_self ..)
        exact List.nodup_cons.mpr ⟨fun hz => nt p hz rfl, sb.nodup nd⟩
      · rcases List.mem_cons.mp hz with rfl | hz
        · exact .inr np
        · refine .inl ?_
          rcases List.mem_append.mp hz with hz | hz
          · exact List.mem_append_left _ (List.mem_cons_of_mem _ hz)
          · exact List.mem_append_right _ (List.mem_cons_of_mem _ hz)
      · cases e
        exact np
    · cases e
  · split at e
    · rename_i x0 y0 hl
      replace hl := sl_iff.mp hl
      cases e
      obtain ⟨x, y, A, B, rfl, rfl, h1, h2⟩ := rdsL2 r
      exact ⟨x, y, rfl, .inr (.inr ⟨_, _, (rds_str.mp h1).1, (rds_str.mp h2).1, hl, q _ H [] (rds_str.mpr ⟨rfl, rfl⟩) (fun _ => List.nodup_nil) (fun a ha => by cases ha) (fun a t n => by cases n) (Chg.refl _ _)⟩)⟩
    · cases e
  · cases e
def pMul : List D → Option D
  | [.int i, .int j] => if sl (decide ((-(2 ^ 64) < i ∧ i < 2 ^ 64) ∨ (-(2 ^ 64) < j ∧ j < 2 ^ 64))) then some (.int (i * j)) else none
  | [.lst xs, .int k] => if sl (decide (D.atomL xs = true ∧ -(2 ^ 63) ≤ k ∧ k < 2 ^ 63 ∧ xs.length * k.toNat ≤ sizeLine)) then some (.lst (List.replicate k.toNat xs).flatten) else none
  | _ => none
theorem rdsL_rep {H : Hp} {ds : List D} {vs : List V} (h : RdsL G H ds vs []) : ∀ k : Nat, RdsL G H (List.replicate k ds).flatten (List.replicate k vs).flatten []
  | 0 => rdsL_nil.mpr ⟨rfl, rfl⟩
  | k + 1 => by
    rw [List.replicate_succ, List.flatten_cons, List.replicate_succ, List.flatten_cons]
    exact rdsL_app h (rdsL_rep h k)
theorem q_new {H : Hp} {Q : VK} {d : D} {ds : List D} {vs : List V} {p : Addr} (np : H p = none) (r : RdsL G H ds vs []) (q : ∀ v H' A, Rds G H' (.lst ds) v A → A.Nodup → (∀ a ∈ A, H a = none) → Chg No H H' → Q v H') : Q (.ref p) (upd H p (.lst vs)) := by
  have c : Chg No H (upd H p (.lst vs)) := Chg.new np
  refine q _ _ [p] (rds_lst.mpr ⟨p, vs, [], rfl, upd_same, RdsL.chg c ds vs [] (fun _ _ z => z) r, rfl⟩) (by simp) (fun a ha => ?_) c
  rw [List.mem_singleton.mp ha]
  exact np
abbrev rMulAll : R2 := fun x y H Q => (rI CMul fun i j => .int (i * j)) x y H Q ∨ rRep x y H Q
theorem op_mulAll : OpR X (binaryOp .Mult) rMulAll := op_mul.or op_rep
theorem prim_mul : PrimF G (r2 rMulAll) pMul := fun H vs ds F Q d tb r e q => by
  unfold pMul at e
  split at e
  · split at e
    · rename_i i j hc
      cases e
      obtain ⟨x, y, A, B, rfl, rfl, h1, h2⟩ := rdsL2 r
      exact ⟨x, y, rfl, .inl ⟨_, _, (rds_int.mp h1).1, (rds_int.mp h2).1, show (-(2 ^ 64) < i ∧ i < 2 ^ 64) ∨ (-(2 ^ 64) < j ∧ j < 2 ^ 64) from sl_iff.mp hc, q_atom (hInt _) q⟩⟩
    · cases e
  · split at e
    · rename_i xs k hc
      obtain ⟨c1, c2, c3, c4⟩ := sl_iff.mp hc
      cases e
      obtain ⟨x, y, A, B, rfl, rfl, h1, h2⟩ := rdsL2 r
      obtain ⟨a, us, A', rfl, h3, h4, rfl⟩ := rds_lst.mp h1
      have eA := RdsL.atom xs us A' c1 h4
      subst eA
      refine ⟨_, _, rfl, .inr ⟨a, k, us, rfl, (rds_int.mp h2).1, h3, c2, c3, by rw [rdsL_len h4]; exact c4, fun p np => ?_⟩⟩
      exact q_new (d := .non) np (rdsL_rep h4 k.toNat) q
    · cases e
  · cases e
def pEqv (neg : Bool) : List D → Option D
  | [.int i, .int j] => some (.bl (if neg then !decide (i = j) else decide (i = j)))
  | [x, y] => match x.py, y.py with
    | some p, some q => if SeqAt.shaped p && SeqAt.shaped q then some (.bl (if neg then !PyData.eqv p q else PyData.eqv p q)) else none
    | _, _ => none
  | _ => none
theorem pEqv_gen {neg : Bool} {ds : List D} {d : D} (h : pEqv neg ds = some d) : ∃ x y p q, ds = [x, y] ∧ x.py = some p ∧ y.py = some q ∧ SeqAt.shaped p = true ∧ SeqAt.shaped q = true ∧ d = .bl (if neg then !PyData.eqv p q else PyData.eqv p q) := by
  unfold pEqv at h
  split at h
  · rename_i i j
    cases h
    refine ⟨_, _, _, _, rfl, by rw [D.py], by rw [D.py], rfl, rfl, ?_⟩
    have e : PyData.eqv (.int i) (.int j) = decide (i = j) := TA.eqv_int i j
    rw [e]
  · split at h
    · rename_i p q e1 e2
      split at h
      · rename_i hs
        rw [Bool.and_eq_true] at hs
        cases h
        exact ⟨_, _, p, q, rfl, e1, e2, hs.1, hs.2, rfl⟩
      · cases h
    · cases h
  · cases h
theorem prim_eq (hK : X.K = G.K) : PrimF G (r2 (rEqD X.K)) (pEqv false) := fun H vs ds F Q d tb r e q => by
  obtain ⟨x, y, p1, p2, rfl, e1, e2, s1, s2, rfl⟩ := pEqv_gen e
  obtain ⟨u, w, A, B, rfl, rfl, h1, h2⟩ := rdsL2 r
  rw [hK]
  exact ⟨u, w, rfl, p1, p2, Rds.dp _ _ _ _ e1 h1, Rds.dp _ _ _ _ e2 h2, s1, s2, q_atom (hBl _) q⟩
theorem prim_ne (hK : X.K = G.K) : PrimF G (r2 (rNeD X.K)) (pEqv true) := fun H vs ds F Q d tb r e q => by
  obtain ⟨x, y, p1, p2, rfl, e1, e2, s1, s2, rfl⟩ := pEqv_gen e
  obtain ⟨u, w, A, B, rfl, rfl, h1, h2⟩ := rdsL2 r
  rw [hK]
  exact ⟨u, w, rfl, p1, p2, Rds.dp _ _ _ _ e1 h1, Rds.dp _ _ _ _ e2 h2, s1, s2, q_atom (hBl _) q⟩
def D.isNon : D → Bool
  | .non => true
  | _ => false
def pIsN (neg : Bool) : List D → Option D
  | [.any, .non] => none
  | [x, .non] => some (.bl (if neg then !x.isNon else x.isNon))
  | _ => none
theorem isNon_of {H : Hp} {d : D} {v : V} {F : List Addr} (r : Rds G H d v F) (hn : d ≠ .any) : decide (v = .non) = d.isNon := by
  cases d with
  | non => rw [(rds_non.mp r).1]; rfl
  | bl b => rw [(rds_bl.mp r).1]; rfl
  | int b => rw [(rds_int.mp r).1]; rfl
  | str b => rw [(rds_str.mp r).1]; rfl
  | tup b => obtain ⟨a, xs, rfl, _⟩ := rds_tup.mp r; rfl
  | lst b => obtain ⟨a, xs, A, rfl, _⟩ := rds_lst.mp r; rfl
  | dct b c => obtain ⟨a, xs, A, rfl, _⟩ := rds_dct.mp r; rfl
  | obj b c e => unfold Rds at r; obtain ⟨a, dx, us, A, rfl, _⟩ := r; rfl
  | scr b => obtain ⟨a, rfl, _⟩ := rds_scr.mp r; rfl
  | any => exact absurd rfl hn
  | exn c ns ds => unfold Rds at r; obtain ⟨a, dx, us, _, rfl, _⟩ := r; rfl
theorem prim_isN : PrimF G (r2 fun x y H Q => y = .non ∧ Q (.bl (decide (x = .non))) H) (pIsN false) := fun H vs ds F Q d tb r e q => by
  unfold pIsN at e
  split at e
  · cases e
  · rename_i hx
    cases e
    obtain ⟨x, y, A, B, rfl, rfl, h1, h2⟩ := rdsL2 r
    exact ⟨x, y, rfl, (rds_non.mp h2).1, by rw [isNon_of h1 fun z => hx z]; exact q_atom (hBl _) q⟩
  · cases e
def D.items : D → Option (List D)
  | .lst ds => some ds
  | .tup ds => some ds
  | .scr ns => some (ns.map .int)
  | _ => none
def keyD : D → Option Key
  | .int i => some (.inl i)
  | .str s => some (.inr s)
  | _ => none
def atK : List Key → List D → Key → Option D
  | k' :: ks, d :: ds, k => if k' = k then some d else atK ks ds k
  | _, _, _ => none
theorem rdsL_atK {H : Hp} {k : Key} : ∀ {us : List (Key × V)} {ds : List D} {F : List Addr}, RdsL G H ds (us.map (·.2)) F → (∀ d, atK (us.map (·.1)) ds k = some d → ∃ v A, valV us k = some v ∧ Rds G H d v A ∧ A.Sublist F) ∧ (atK (us.map (·.1)) ds k = none → valV us k = none)
  | [], ds, F, h => by
    have e := rdsL_len h
    cases ds with
    | nil => exact ⟨fun d e => (by unfold atK at e; cases e), fun _ => rfl⟩
    | cons d ds => simp at e
  | (k', v) :: us, ds, F, h => by
    cases ds with
    | nil => exact absurd (rdsL_len h) (by simp)
    | cons d ds =>
      obtain ⟨x, r, A, B, e, rfl, h1, h2⟩ := rdsL_cons.mp h
      cases e
      have ih := rdsL_atK (k := k) h2
      simp only [List.map_cons, atK]
      by_cases hk : k' = k
      · rw [if_pos hk, valV_pos (p := (k', v)) hk]
        refine ⟨fun d' e => ?_, fun e => by cases e⟩
        cases e
        exact ⟨v, A, rfl, h1, List.sublist_append_left ..⟩
      · rw [if_neg hk, valV_neg (p := (k', v)) hk]
        refine ⟨fun d' e => ?_, ih.2⟩
        obtain ⟨v', A', e1, e2, e3⟩ := ih.1 d' e
        exact ⟨v', A', e1, e2, e3.trans (List.sublist_append_right ..)⟩
theorem rds_key {H : Hp} {d : D} {k : Key} {v : V} {F : List Addr} (e : keyD d = some k) (r : Rds G H d v F) : v = kV k := by
  cases d <;> unfold keyD at e <;> first | cases e | skip
  · exact (rds_int.mp r).1
  · exact (rds_str.mp r).1
def pIx : List D → Option D
  | [.lst ds, .int i] => atI ds i
  | [.tup ds, .int i] => atI ds i
  | [.scr ns, .int i] => (atI ns i).map .int
  | [.dct ks ds, k] => (keyD k).bind fun k => atK ks ds k
  | _ => none
abbrev rIxAll (K : PySem.W.Frag) : R2 := fun x y H Q => rIx K x y H Q ∨ ∃ a v, x = .ref a ∧ DGet H a y (some v) ∧ Q v H
theorem ix_all (x : XOk G X) : IxR X (rIxAll X.K) := ix_seq.or (ix_dict (by have := x.un; omega))
theorem atI_rds {H : Hp} {ds : List D} {vs : List V} {F : List Addr} {i : Int} {d : D} (r : RdsL G H ds vs F) (e : atI ds i = some d) : ∃ v A, atI vs i = some v ∧ Rds G H d v A ∧ A.Sublist F := by
  unfold atI at e ⊢
  rw [rdsL_len r]
  cases h : ixN ds.length i with
  | none => rw [h] at e; cases e
  | some j =>
    rw [h] at e
    obtain ⟨v, A, h1, h2, h3⟩ := rdsL_get r (show ds[j]? = some d from e)
    exact ⟨v, A, h1, h2, h3⟩
theorem atI_map {α β : Type} (f : α → β) (xs : List α) (i : Int) : atI (xs.map f) i = (atI xs i).map f := by
  unfold atI
  rw [List.length_map]
  cases ixN xs.length i with
  | none => rfl
  | some j => simp
theorem prim_ix (hK : X.K = G.K) : PrimE G (r2 (rIxAll X.K)) pIx := fun H d1 v1 F1 vs ds F Q d tb r1 r e q => by
  rw [hK]
  unfold pIx at e
  split at e
  · rename_i xs i heq
    cases heq
    obtain ⟨y, rfl, h2⟩ := rdsL1 r
    obtain ⟨a, us, A', rfl, h3, h4, rfl⟩ := rds_lst.mp r1
    obtain ⟨v, A, h5, h6, h7⟩ := atI_rds h4 e
    exact ⟨_, y, rfl, .inl (.inl ⟨a, us, i, v, rfl, (rds_int.mp h2).1, SqL.of h3, h5, q v H A h6 (h7.trans (List.sublist_cons_self ..)) (Chg.refl _ _)⟩)⟩
  · rename_i xs i heq
    cases heq
    obtain ⟨y, rfl, h2⟩ := rdsL1 r
    obtain ⟨a, us, rfl, h3, h4⟩ := rds_tup.mp r1
    obtain ⟨v, A, h5, h6, h7⟩ := atI_rds h4 e
    exact ⟨_, y, rfl, .inl (.inr (.inl ⟨a, us, i, v, rfl, (rds_int.mp h2).1, h3, h5, q v H A h6 h7 (Chg.refl _ _)⟩))⟩
  · rename_i ns i heq
    cases heq
    obtain ⟨y, rfl, h2⟩ := rdsL1 r
    obtain ⟨a, rfl, h3, rfl⟩ := rds_scr.mp r1
    cases h : atI ns i with
    | none => rw [h] at e; cases e
    | some n =>
      rw [h] at e
      cases e
      exact ⟨_, y, rfl, .inl (.inl ⟨a, _, i, .int n, rfl, (rds_int.mp h2).1, h3.sql, by rw [atI_map, h]; rfl, q _ H [] (hInt _ _ _) (List.Sublist.refl _) (Chg.refl _ _)⟩)⟩
  · rename_i ks xs k heq
    cases heq
    obtain ⟨y, rfl, h2⟩ := rdsL1 r
    obtain ⟨a, us, A', rfl, h3, ⟨rfl, hnd⟩, h4, rfl⟩ := rds_dct.mp r1
    cases hk : keyD k with
    | none => rw [hk] at e; cases e
    | some k' =>
      rw [hk] at e
      obtain ⟨v, A, h5, h6, h7⟩ := (rdsL_atK h4).1 d e
      have ey := rds_key hk h2
      subst ey
      refine ⟨_, _, rfl, .inr ⟨a, v, rfl, ?_, q v H A h6 (h7.trans (List.sublist_cons_self ..)) (Chg.refl _ _)⟩⟩
      rw [← h5]
      exact DGet.k h3
  · cases e
theorem ve_sub (x : XOk G X) {a b : Expr} {M M' : List Nat} {k k' : Kind} {f g : EF} {pos : Pos} (ha : VE G X a M k f) (hb : VE G X b M' k' g) (hs : PlainIx b := by intro _ _; rfl) (sf : k.safe M' = true := by rfl) : VE G X (.Subscript a b pos) (M ++ M') (kPart [k, k']) (ePrim pIx (lCons f (lCons g lNil))) :=
  ve_ix (ix_all x) (prim_ix x.K) ha hb hs sf
def cutD (xs : List D) (lo hi : Option Int) : List D := (xs.drop (HT.sIx xs.length 0 lo)).take (HT.sIx xs.length xs.length hi - HT.sIx xs.length 0 lo)
theorem rdsL_drop {H : Hp} : ∀ {ds : List D} {vs : List V} {F : List Addr} (n : Nat), RdsL G H ds vs F → ∃ A, RdsL G H (ds.drop n) (vs.drop n) A ∧ A.Sublist F
  | _, _, F, 0, h => ⟨F, h, List.Sublist.refl _⟩
  | [], _, F, n + 1, h => by
    obtain ⟨rfl, rfl⟩ := rdsL_nil.mp h
    exact ⟨[], h, List.Sublist.refl _⟩
  | d :: ds, _, F, n + 1, h => by
    obtain ⟨x, r, A, B, rfl, rfl, h1, h2⟩ := rdsL_cons.mp h
    obtain ⟨A', h3, h4⟩ := rdsL_drop n h2
    exact ⟨A', h3, h4.trans (List.sublist_append_right ..)⟩
theorem rdsL_take {H : Hp} : ∀ {ds : List D} {vs : List V} {F : List Addr} (n : Nat), RdsL G H ds vs F → ∃ A, RdsL G H (ds.take n) (vs.take n) A ∧ A.Sublist F
  | _, _, F, 0, h => ⟨[], rdsL_nil.mpr ⟨rfl, rfl⟩, List.nil_sublist _⟩
  | [], _, F, n + 1, h => by
    obtain ⟨rfl, rfl⟩ := rdsL_nil.mp h
    exact ⟨[], h, List.Sublist.refl _⟩
  | d :: ds, _, F, n + 1, h => by
    obtain ⟨x, r, A, B, rfl, rfl, h1, h2⟩ := rdsL_cons.mp h
    obtain ⟨A', h3, h4⟩ := rdsL_take n h2
    exact ⟨A ++ A', rdsL_cons.mpr ⟨x, _, A, A', rfl, rfl, h1, h3⟩, (List.Sublist.refl A).append h4⟩
theorem rdsL_cut {H : Hp} {ds : List D} {vs : List V} {F : List Addr} (lo hi : Option Int) (h : RdsL G H ds vs F) : ∃ A, RdsL G H (cutD ds lo hi) (cutV vs lo hi) A ∧ A.Sublist F := by
  unfold cutD cutV
  rw [rdsL_len h]
  obtain ⟨A, h1, h2⟩ := rdsL_drop (HT.sIx ds.length 0 lo) h
  obtain ⟨B, h3, h4⟩ := rdsL_take (HT.sIx ds.length ds.length hi - HT.sIx ds.length 0 lo) h1
  exact ⟨B, h3, h4.trans h2⟩
end
end
end VL
set_option maxHeartbeats 4000000
namespace VL
noncomputable section
open PySem PySem.Spec PyProof.Rows L2
open GxR (TabB Tabbed)
variable [LamT]
section
variable {G : Gb} {X : Cx}
abbrev OF := Env → Option (Option Int × Env)
def tVO (G : Gb) (M : List Nat) (f : OF) : TO := fun σ H Q => ∃ C E Fs, Rel G C H σ E Fs ∧ ∃ o E', f E = some (o, E') ∧ ∀ H' Fs', Rel G C H' σ E' Fs' → Stp M H H' E E' Fs Fs' → Q o H'
abbrev VO (G : Gb) (X : Cx) (e : Option Expr) (M : List Nat) (f : OF) : Prop := PO X e (tVO G M f)
theorem PO.imp {e : Option Expr} {t t' : TO} (h : PO X e t) (i : ∀ σ H Q, t' σ H Q → t σ H Q) : PO X e t' := ⟨fun pins s σ H Q I q => h.run pins s σ H Q I (i σ H Q q)⟩
def oNone : OF := fun E => some (none, E)
def oSome (f : EF) : OF := fun E => match f E with
  | some (.int i, E') => some (some i, E')
  | _ => none
theorem vo_none : VO G X none [] oNone := PO.imp po_none fun σ H Q ⟨C, E, Fs, R, o, E', e, q⟩ => by
  cases e
  exact q H Fs R Stp.refl
theorem vo_some {e : Expr} {M : List Nat} {k : Kind} {f : EF} (h : VE G X e M k f) : VO G X (some e) M (oSome f) := PO.imp (po_some h) fun σ H Q ⟨C, E, Fs, R, o, E', e, q⟩ => by
  unfold oSome at e
  split at e
  · rename_i i E1 e1
    cases e
    exact ⟨C, E, Fs, R, _, _, e1, fun v H' Fs' F R' s' r' _ => ⟨i, (rds_int.mp r').1, q H' Fs' R' s'⟩⟩
  · cases e
def pSlice (lo hi : Option Int) : List D → Option D
  | [.lst ds] => some (.lst (cutD ds lo hi))
  | [.scr ns] => some (.lst (cutD (ns.map .int) lo hi))
  | [.tup ds] => if HT.sIx ds.length 0 lo = 0 ∧ HT.sIx ds.length ds.length hi = ds.length then none else some (.tup (cutD ds lo hi))
  | _ => none
abbrev rSlAll (K : PySem.W.Frag) : V → Option Int → Option Int → Hp → VK → Prop := fun x lo hi H Q => rSlL K x lo hi H Q ∨ rSlT K x lo hi H Q
theorem sl_all : SlR X (rSlAll X.K) := sl_list.or sl_tup
theorem prim_slice (hK : X.K = G.K) (lo hi : Option Int) : PrimV G (fun vs H Q => ∃ x, vs = [x] ∧ rSlAll X.K x lo hi H Q) (pSlice lo hi) := fun H vs ds F Q d tb r e q => by
  rw [hK]
  unfold pSlice at e
  split at e
  · rename_i xs
    cases e
    obtain ⟨x, rfl, h1⟩ := rdsL1 r
    obtain ⟨a, us, A, rfl, h3, h4, rfl⟩ := rds_lst.mp h1
    refine ⟨_, rfl, .inl ⟨a, us, rfl, SqL.of h3, fun p np => ?_⟩⟩
    obtain ⟨B, h5, h6⟩ := rdsL_cut lo hi h4
    have c : Chg No H (upd H p (.lst (cutV us lo hi))) := Chg.new np
    refine q _ _ (p :: B) (rds_lst.mpr ⟨p, _, _, rfl, upd_same, RdsL.chg c _ _ _ (fun _ _ z => z) h5, rfl⟩) (fun nd => ?_) (fun z hz => ?_) (fun z t n e => ?_) c
    · refine List.nodup_cons.mpr ⟨fun hz => ?_, (h6.trans (List.sublist_cons_self ..)).nodup nd⟩
      obtain ⟨o, eo, _⟩ := RdsL.trk _ _ _ h5 p hz
      rw [np] at eo
      cases eo
    · rcases List.mem_cons.mp hz with rfl | hz
      · exact .inr np
      · exact .inl (List.mem_cons_of_mem _ (h6.subset hz))
    · cases e
      exact np
  · rename_i ns
    cases e
    obtain ⟨x, rfl, h1⟩ := rdsL1 r
    obtain ⟨a, rfl, h3, rfl⟩ := rds_scr.mp h1
    refine ⟨_, rfl, .inl ⟨a, _, rfl, h3.sql, fun p np => ?_⟩⟩
    obtain ⟨B, h5, h6⟩ := rdsL_cut lo hi (rdsL_mk_ints (G := G) (H := H) ns)
    have eB : B = [] := List.sublist_nil.mp h6
    subst eB
    have c : Chg No H (upd H p (.lst (cutV (ns.map V.int) lo hi))) := Chg.new np
    refine q _ _ [p] (rds_lst.mpr ⟨p, _, _, rfl, upd_same, RdsL.chg c _ _ _ (fun _ _ z => z) h5, rfl⟩) (fun nd => by simp) (fun z hz => ?_) (fun z t n e => ?_) c
    · rw [List.mem_singleton.mp hz]
      exact .inr np
    · cases e
      exact np
  · split at e
    · cases e
    · rename_i xs hw
      cases e
      obtain ⟨x, rfl, h1⟩ := rdsL1 r
      obtain ⟨a, us, rfl, h3, h4⟩ := rds_tup.mp h1
      refine ⟨_, rfl, .inr ⟨a, us, rfl, h3, by rw [rdsL_len h4]; exact hw, fun p np => ?_⟩⟩
      obtain ⟨B, h5, h6⟩ := rdsL_cut lo hi h4
      have c : Chg No H (upd H p (.tup (cutV us lo hi))) := Chg.new np
      exact q _ _ B (rds_tup.mpr ⟨p, _, rfl, SqT.of upd_same, RdsL.chg c _ _ _ (fun _ _ z => z) h5⟩) (fun nd => h6.nodup nd) (fun z hz => .inl (h6.subset hz)) (fun z t n => by cases n) c
  · cases e
def eSlice (f : EF) (lo hi : OF) : EF := fun E => match f E with
  | some (d, E1) => (match lo E1 with
    | some (l, E2) => (match hi E2 with
      | some (u, E3) => (match pSlice l u [d] with
        | some r => some (r, E3)
        | none => none)
      | none => none)
    | none => none)
  | none => none
theorem ve_slice (x : XOk G X) {e : Expr} {lo hi : Option Expr} {M M1 M2 : List Nat} {k : Kind} {f : EF} {fl fh : OF} {p2 pos : Pos} (he : VE G X e M k f) (hl : VO G X lo M1 fl) (hh : VO G X hi M2 fh) (s1 : k.safe M1 = true := by rfl) (s2 : k.safe M2 = true := by rfl) :
    VE G X (.Subscript e (.Slice lo hi none p2) pos) (M ++ (M1 ++ M2)) (kTop [k]) (eSlice f fl fh) := PE.imp (pe_slice sl_all he hl hh) fun σ H Q ⟨C, E, Fs, R, d, E', e, q⟩ => by
  unfold eSlice at e
  split at e
  · rename_i d1 E1 e1
    split at e
    · rename_i l E2 e2
      split at e
      · rename_i u E3 e3
        split at e
        · rename_i r e4
          cases e
          refine ⟨C, E, Fs, R, d1, E1, e1, fun v H1 Fs1 F R1 st1 r1 k1 => ⟨C, E1, Fs1, R1, l, E2, e2, fun H2 Fs2 R2 st2 => ⟨C, E2, Fs2, R2, u, _, e3, fun H3 Fs3 R3 st3 => ?_⟩⟩⟩
          obtain ⟨r2, k2⟩ := k1.step R1 r1 st2 s1
          obtain ⟨r3, k3⟩ := k2.step R2 r2 st3 s2
          have st := st1.trans (st2.trans st3)
          obtain ⟨x', ex, qq⟩ := fin_top (ks := [k]) (FF := [F]) (prim_slice (G := G) x.K l u) R3 st ⟨d1, [], v, [], F, [], rfl, rfl, rfl, r3, k3, fun j B hB => by simp at hB, rfl, rfl, rfl⟩ e4 q
          cases ex
          exact qq
        · cases e
      · cases e
    · cases e
  · cases e
end
end
end VL
set_option maxHeartbeats 4000000
namespace VL
noncomputable section
open PySem PySem.Spec PyProof.Rows L2
open GxR (TabB Tabbed)
variable [LamT]
section
variable {G : Gb} {X : Cx}
def intsD : List D → Option (List Int)
  | [] => some []
  | .int i :: ds => (intsD ds).map (i :: ·)
  | _ => none
theorem intsD_of : ∀ {ds : List D} {ns : List Int}, intsD ds = some ns → ds = ns.map .int
  | [], ns, e => by
    unfold intsD at e
    cases e
    rfl
  | d :: ds, ns, e => by
    unfold intsD at e
    split at e
    · rename_i heq; cases heq
    · rename_i i ds' heq
      cases heq
      cases h : intsD ds with
      | none => rw [h] at e; cases e
      | some ms =>
        rw [h] at e
        cases e
        rw [intsD_of h]
        rfl
    · cases e
theorem hStr (i : Str) : ∀ G H, Rds G H (.str i) (.str i) [] := fun _ _ => rds_str.mpr ⟨rfl, rfl⟩
def pLen : List D → Option D
  | [.lst ds] => some (.int ds.length)
  | [.tup ds] => some (.int ds.length)
  | [.scr ns] => some (.int ns.length)
  | [.dct ks _] => some (.int ks.length)
  | [.str s] => if sl (decide (s.length ≤ sizeLine)) then some (.int s.length) else none
  | _ => none
abbrev rLenAll (K : PySem.W.Frag) : List V → Hp → VK → Prop := fun xs H Q => (∃ x n, xs = [x] ∧ LenV K x H n ∧ Q (.int n) H) ∨ ∃ d kvs, xs = [.ref d] ∧ H d = some (.dK kvs) ∧ Q (.int kvs.length) H
theorem prim_len (hK : X.K = G.K) : PrimF G (rLenAll X.K) pLen := fun H vs ds F Q d tb r e q => by
  rw [hK]
  unfold pLen at e
  split at e
  · cases e
    obtain ⟨x, rfl, h1⟩ := rdsL1 r
    obtain ⟨a, us, A, rfl, h3, h4, rfl⟩ := rds_lst.mp h1
    exact .inl ⟨_, _, rfl, .inl ⟨us, SqL.of h3, (rdsL_len h4).symm⟩, q_atom (hInt _) q⟩
  · cases e
    obtain ⟨x, rfl, h1⟩ := rdsL1 r
    obtain ⟨a, us, rfl, h3, h4⟩ := rds_tup.mp h1
    exact .inl ⟨_, _, rfl, .inr ⟨us, h3, (rdsL_len h4).symm⟩, q_atom (hInt _) q⟩
  · cases e
    obtain ⟨x, rfl, h1⟩ := rdsL1 r
    obtain ⟨a, rfl, h3, rfl⟩ := rds_scr.mp h1
    exact .inl ⟨_, _, rfl, .inl ⟨_, h3.sql, (List.length_map ..).symm⟩, q_atom (hInt _) q⟩
  · cases e
    obtain ⟨x, rfl, h1⟩ := rdsL1 r
    obtain ⟨a, us, A, rfl, h3, ⟨rfl, hnd⟩, h4, rfl⟩ := rds_dct.mp h1
    refine .inr ⟨a, us, rfl, h3, ?_⟩
    rw [List.length_map] at q
    exact q_atom (hInt _) q
  · split at e
    · rename_i s hl
      replace hl := sl_iff.mp hl
      cases e
      obtain ⟨x, rfl, h1⟩ := rdsL1 r
      obtain ⟨rfl, rfl⟩ := rds_str.mp h1
      exact .inl ⟨_, _, rfl, ⟨hl, rfl⟩, q_atom (hInt _) q⟩
    · cases e
  · cases e
theorem call_lenAll : CallR X (.builtin "len") (rLenAll X.K) := call_len.or call_lenD
def pAbs : List D → Option D
  | [.int i] => some (.int (if i < 0 then -i else i))
  | _ => none
theorem prim_abs : PrimF G (fun xs H Q => ∃ i, xs = [.int i] ∧ Q (.int (if i < 0 then -i else i)) H) pAbs := fun H vs ds F Q d tb r e q => by
  unfold pAbs at e
  split at e
  · cases e
    obtain ⟨x, rfl, h1⟩ := rdsL1 r
    obtain ⟨rfl, rfl⟩ := rds_int.mp h1
    exact ⟨_, rfl, q_atom (hInt _) q⟩
  · cases e
def pMin : List D → Option D
  | [.int i, .int j] => some (.int (if j < i then j else i))
  | [.lst ds] => match intsD ds with
    | some (n :: ns) => some (.int (ns.foldl min n))
    | _ => none
  | [.tup ds] => match intsD ds with
    | some (n :: ns) => some (.int (ns.foldl min n))
    | _ => none
  | _ => none
def pMax : List D → Option D
  | [.int i, .int j] => some (.int (if j > i then j else i))
  | [.lst ds] => match intsD ds with
    | some (n :: ns) => some (.int (ns.foldl max n))
    | _ => none
  | [.tup ds] => match intsD ds with
    | some (n :: ns) => some (.int (ns.foldl max n))
    | _ => none
  | _ => none
theorem foldl_min_le : ∀ (ns : List Int) (n : Int), ns.foldl min n ≤ n ∧ ∀ y ∈ ns, ns.foldl min n ≤ y
  | [], n => ⟨Int.le_refl _, fun y hy => by cases hy⟩
  | m :: ns, n => by
    obtain ⟨h1, h2⟩ := foldl_min_le ns (min n m)
    refine ⟨by rw [List.foldl_cons]; omega, fun y hy => ?_⟩
    rw [List.foldl_cons]
    rcases List.mem_cons.mp hy with rfl | hy
    · omega
    · exact h2 y hy
theorem foldl_max_ge : ∀ (ns : List Int) (n : Int), n ≤ ns.foldl max n ∧ ∀ y ∈ ns, y ≤ ns.foldl max n
  | [], n => ⟨Int.le_refl _, fun y hy => by cases hy⟩
  | m :: ns, n => by
    obtain ⟨h1, h2⟩ := foldl_max_ge ns (max n m)
    refine ⟨by rw [List.foldl_cons]; omega, fun y hy => ?_⟩
    rw [List.foldl_cons]
    rcases List.mem_cons.mp hy with rfl | hy
    · omega
    · exact h2 y hy
theorem foldl_min_mem : ∀ (ns : List Int) (n : Int), ns.foldl min n ∈ n :: ns
  | [], n => List.mem_cons_self
  | m :: ns, n => by
    have h := foldl_min_mem ns (min n m)
    rw [List.foldl_cons]
    rcases List.mem_cons.mp h with h | h
    · rw [h]
      rcases Int.le_total n m with z | z
      · rw [Int.min_eq_left z]
        exact List.mem_cons_self
      · rw [Int.min_eq_right z]
        exact List.mem_cons_of_mem _ List.mem_cons_self
    · exact List.mem_cons_of_mem _ (List.mem_cons_of_mem _ h)
theorem foldl_max_mem : ∀ (ns : List Int) (n : Int), ns.foldl max n ∈ n :: ns
  | [], n => List.mem_cons_self
  | m :: ns, n => by
    have h := foldl_max_mem ns (max n m)
    rw [List.foldl_cons]
    rcases List.mem_cons.mp h with h | h
    · rw [h]
      rcases Int.le_total n m with z | z
      · rw [Int.max_eq_right z]
        exact List.mem_cons_of_mem _ List.mem_cons_self
      · rw [Int.max_eq_left z]
        exact List.mem_cons_self
    · exact List.mem_cons_of_mem _ (List.mem_cons_of_mem _ h)
abbrev rMinAll (K : PySem.W.Frag) : List V → Hp → VK → Prop := fun xs H Q => (∃ i j, xs = [.int i, .int j] ∧ Q (.int (if j < i then j else i)) H) ∨ (rMin K xs H Q ∨ TA.rMinT K xs H Q)
abbrev rMaxAll (K : PySem.W.Frag) : List V → Hp → VK → Prop := fun xs H Q => (∃ i j, xs = [.int i, .int j] ∧ Q (.int (if j > i then j else i)) H) ∨ (rMax K xs H Q ∨ TA.rMaxT K xs H Q)
theorem call_minAll (x : XOk G X) : CallR X (.builtin "min") (rMinAll X.K) := (call_min2 x.calm).or ((cr_min x.calm).or (TA.call_minT x.calm (by have := x.un; omega)))
theorem call_maxAll (x : XOk G X) : CallR X (.builtin "max") (rMaxAll X.K) := (call_max2 x.calm).or ((cr_max x.calm).or (TA.call_maxT x.calm (by have := x.un; omega)))
theorem prim_min (hK : X.K = G.K) : PrimF G (rMinAll X.K) pMin := fun H vs ds F Q d tb r e q => by
  rw [hK]
  unfold pMin at e
  split at e
  · cases e
    obtain ⟨x, y, A, B, rfl, rfl, h1, h2⟩ := rdsL2 r
    obtain ⟨rfl, rfl⟩ := rds_int.mp h1
    obtain ⟨rfl, rfl⟩ := rds_int.mp h2
    exact .inl ⟨_, _, rfl, q_atom (hInt _) q⟩
  · split at e
    · rename_i n ns e1
      cases e
      obtain ⟨x, rfl, h1⟩ := rdsL1 r
      obtain ⟨a, us, A, rfl, h3, h4, rfl⟩ := rds_lst.mp h1
      rw [intsD_of e1] at h4
      obtain ⟨rfl, rfl⟩ := rdsL_ints h4
      refine .inr (.inl ⟨a, n :: ns, rfl, SqL.of h3, by simp, fun m hm hy => ?_⟩)
      have e2 : m = ns.foldl min n := by
        have h5 := hy _ (foldl_min_mem ns n)
        have h6 := foldl_min_le ns n
        rcases List.mem_cons.mp hm with z | z
        · have := h6.1; omega
        · have := h6.2 m z; omega
      rw [e2]
      exact q_atom (hInt _) q
    · cases e
  · split at e
    · rename_i n ns e1
      cases e
      obtain ⟨x, rfl, h1⟩ := rdsL1 r
      obtain ⟨a, us, rfl, h3, h4⟩ := rds_tup.mp h1
      rw [intsD_of e1] at h4
      obtain ⟨rfl, rfl⟩ := rdsL_ints h4
      exact .inr (.inr ⟨a, n, ns, rfl, h3, q_atom (hInt _) q⟩)
    · cases e
  · cases e
theorem prim_max (hK : X.K = G.K) : PrimF G (rMaxAll X.K) pMax := fun H vs ds F Q d tb r e q => by
  rw [hK]
  unfold pMax at e
  split at e
  · cases e
    obtain ⟨x, y, A, B, rfl, rfl, h1, h2⟩ := rdsL2 r
    obtain ⟨rfl, rfl⟩ := rds_int.mp h1
    obtain ⟨rfl, rfl⟩ := rds_int.mp h2
    exact .inl ⟨_, _, rfl, q_atom (hInt _) q⟩
  · split at e
    · rename_i n ns e1
      cases e
      obtain ⟨x, rfl, h1⟩ := rdsL1 r
      obtain ⟨a, us, A, rfl, h3, h4, rfl⟩ := rds_lst.mp h1
      rw [intsD_of e1] at h4
      obtain ⟨rfl, rfl⟩ := rdsL_ints h4
      refine .inr (.inl ⟨a, n :: ns, rfl, SqL.of h3, by simp, fun m hm hy => ?_⟩)
      have e2 : m = ns.foldl max n := by
        have h5 := hy _ (foldl_max_mem ns n)
        have h6 := foldl_max_ge ns n
        rcases List.mem_cons.mp hm with z | z
        · have := h6.1; omega
        · have := h6.2 m z; omega
      rw [e2]
      exact q_atom (hInt _) q
    · cases e
  · split at e
    · rename_i n ns e1
      cases e
      obtain ⟨x, rfl, h1⟩ := rdsL1 r
      obtain ⟨a, us, rfl, h3, h4⟩ := rds_tup.mp h1
      rw [intsD_of e1] at h4
      obtain ⟨rfl, rfl⟩ := rdsL_ints h4
      exact .inr (.inr ⟨a, n, ns, rfl, h3, q_atom (hInt _) q⟩)
    · cases e
  · cases e
def pDivmod : List D → Option D
  | [.int i, .int j] => if sl (decide (0 < j ∧ j < 1073741824)) then some (.tup [.int (i / j), .int (i % j)]) else none
  | _ => none
theorem prim_divmod : PrimF G (fun xs H Q => ∃ i j, xs = [.int i, .int j] ∧ CDiv i j ∧ ∀ p, H p = none → Q (.ref p) (upd H p (.tup [.int (i / j), .int (i % j)]))) pDivmod := fun H vs ds F Q d tb r e q => by
  unfold pDivmod at e
  split at e
  · split at e
    · rename_i i j hc
      cases e
      obtain ⟨x, y, A, B, rfl, rfl, h1, h2⟩ := rdsL2 r
      obtain ⟨rfl, rfl⟩ := rds_int.mp h1
      obtain ⟨rfl, rfl⟩ := rds_int.mp h2
      refine ⟨i, j, rfl, show 0 < j ∧ j < 1073741824 from sl_iff.mp hc, fun p np => ?_⟩
      exact q _ _ [] (rds_tup.mpr ⟨p, _, rfl, SqT.of upd_same, rdsL_mk_ints [i / j, i % j]⟩) List.nodup_nil (fun a ha => by cases ha) (Chg.new np)
    · cases e
  · cases e
def pInt : List D → Option D
  | [.int i] => some (.int i)
  | [.bl b] => some (.int (if b then 1 else 0))
  | _ => none
theorem prim_int : PrimV G (fun xs H Q => (∃ i, xs = [.int i] ∧ Q (.int i) H) ∨ ∃ k, xs = [.bl k] ∧ Q (.int (if k then 1 else 0)) H) pInt := PrimF.v fun H vs ds F Q d tb r e q => by
  unfold pInt at e
  split at e
  · cases e
    obtain ⟨x, rfl, h1⟩ := rdsL1 r
    obtain ⟨rfl, rfl⟩ := rds_int.mp h1
    exact .inl ⟨_, rfl, q_atom (hInt _) q⟩
  · cases e
    obtain ⟨x, rfl, h1⟩ := rdsL1 r
    obtain ⟨rfl, rfl⟩ := rds_bl.mp h1
    exact .inr ⟨_, rfl, q_atom (hInt _) q⟩
  · cases e
def pList : List D → Option D
  | [d] => d.items.map .lst
  | _ => none
def pTuple : List D → Option D
  | [d] => d.items.map .tup
  | _ => none
theorem rds_items {H : Hp} {d : D} {ds : List D} {v : V} {F : List Addr} (e : d.items = some ds) (r : Rds G H d v F) : ∃ a us A, v = .ref a ∧ RdsL G H ds us A ∧ A.Sublist F ∧ ((SqL G.K H a us ∧ ∀ ds, d ≠ .tup ds) ∨ (SqT G.K H a us ∧ A = F)) := by
  cases d <;> unfold D.items at e <;> first | cases e | skip
  · obtain ⟨a, us, rfl, h3, h4⟩ := rds_tup.mp r
    exact ⟨a, us, F, rfl, h4, List.Sublist.refl _, .inr ⟨h3, rfl⟩⟩
  · obtain ⟨a, us, A, rfl, h3, h4, rfl⟩ := rds_lst.mp r
    exact ⟨a, us, A, rfl, h4, List.sublist_cons_self .., .inl ⟨SqL.of h3, fun _ z => by cases z⟩⟩
  · obtain ⟨a, rfl, h3, rfl⟩ := rds_scr.mp r
    exact ⟨a, _, [], rfl, rdsL_mk_ints _, List.Sublist.refl _, .inl ⟨h3.sql, fun _ z => by cases z⟩⟩
theorem prim_list (hK : X.K = G.K) : PrimV G (fun xs H Q => ∃ p ys, xs = [.ref p] ∧ (SqL X.K H p ys ∨ SqT X.K H p ys) ∧ ∀ l, H l = none → Q (.ref l) (upd H l (.lst ys))) pList := fun H vs ds F Q d tb r e q => by
  rw [hK]
  unfold pList at e
  split at e
  · rename_i d0
    cases e0 : d0.items with
    | none => rw [e0] at e; cases e
    | some its =>
      rw [e0] at e
      cases e
      obtain ⟨x, rfl, h1⟩ := rdsL1 r
      obtain ⟨a, us, A, rfl, h2, h3, h4⟩ := rds_items e0 h1
      refine ⟨a, us, rfl, h4.elim (fun z => .inl z.1) (fun z => .inr z.1), fun p np => ?_⟩
      have c : Chg No H (upd H p (.lst us)) := Chg.new np
      refine q _ _ (p :: A) (rds_lst.mpr ⟨p, _, _, rfl, upd_same, RdsL.chg c _ _ _ (fun _ _ z => z) h2, rfl⟩) (fun nd => ?_) (fun z hz => ?_) (fun z t n e => ?_) c
      · refine List.nodup_cons.mpr ⟨fun hz => ?_, h3.nodup nd⟩
        obtain ⟨o, eo, _⟩ := RdsL.trk _ _ _ h2 p hz
        rw [np] at eo
        cases eo
      · rcases List.mem_cons.mp hz with rfl | hz
        · exact .inr np
        · exact .inl (h3.subset hz)
      · cases e
        exact np
  · cases e
def blsD : List D → Option (List Bool)
  | [] => some []
  | .bl i :: ds => (blsD ds).map (i :: ·)
  | _ => none
def pAll : List D → Option D
  | [.lst ds] => (blsD ds).map fun bs => .bl (bs.all id)
  | _ => none
def pAny : List D → Option D
  | [.lst ds] => (blsD ds).map fun bs => .bl (bs.any id)
  | _ => none
def pRepr : List D → Option D
  | [d] => match d.py with
    | some p => if sl (isDisplay p && p.showable && !p.hasDict && decide (p.depth ≤ 30) && decide (p.shown.length ≤ sizeLine)) then some (.str p.shown) else none
    | none => none
  | _ => none
theorem prim_repr (hK : X.K = G.K) : PrimF G (fun xs H Q => ∃ x d, xs = [x] ∧ Dp X.K H x d ∧ TA.Shows d ∧ Q (.str d.shown) H) pRepr := fun H vs ds F Q d tb r e q => by
  rw [hK]
  unfold pRepr at e
  split at e
  · split at e
    · rename_i p e1
      split at e
      · rename_i hc
        rw [sl_eq] at hc
        simp only [Bool.and_eq_true, Bool.not_eq_true', decide_eq_true_eq] at hc
        obtain ⟨⟨⟨⟨c1, c2⟩, c3⟩, c4⟩, c5⟩ := hc
        cases e
        obtain ⟨x, rfl, h1⟩ := rdsL1 r
        exact ⟨x, p, rfl, Rds.dp _ _ _ _ e1 h1, ⟨c1, c2, c3, c4, c5⟩, q_atom (hStr _) q⟩
      · cases e
    · cases e
  · cases e
end
end
end VL
set_option maxHeartbeats 4000000
namespace VL
noncomputable section
open PySem PySem.Spec PyProof.Rows L2
open GxR (TabB Tabbed)
variable [LamT]
section
variable {G : Gb} {X : Cx}
def flatD : D → Option V
  | .non => some .non
  | .bl b => some (.bl b)
  | .int i => some (.int i)
  | .str s => some (.str s)
  | _ => none
def flatsD : List D → Option (List V)
  | [] => some []
  | d :: ds => match flatD d, flatsD ds with
    | some v, some vs => some (v :: vs)
    | _, _ => none
theorem flatD_of {H : Hp} {d : D} {x v : V} {F : List Addr} (e : flatD d = some x) (r : Rds G H d v F) : v = x ∧ flatV x = true ∧ F = [] := by
  cases d <;> unfold flatD at e <;> cases e
  · exact ⟨(rds_non.mp r).1, rfl, (rds_non.mp r).2⟩
  · exact ⟨(rds_bl.mp r).1, rfl, (rds_bl.mp r).2⟩
  · exact ⟨(rds_int.mp r).1, rfl, (rds_int.mp r).2⟩
  · exact ⟨(rds_str.mp r).1, rfl, (rds_str.mp r).2⟩
theorem flatsD_of {H : Hp} : ∀ {ds : List D} {xs vs : List V} {F : List Addr}, flatsD ds = some xs → RdsL G H ds vs F → vs = xs ∧ xs.all flatV = true ∧ F = []
  | [], xs, vs, F, e, r => by
    unfold flatsD at e
    cases e
    exact ⟨(rdsL_nil.mp r).1, rfl, (rdsL_nil.mp r).2⟩
  | d :: ds, xs, vs, F, e, r => by
    obtain ⟨x, r', A, B, rfl, rfl, h1, h2⟩ := rdsL_cons.mp r
    unfold flatsD at e
    split at e
    · rename_i v vs' e1 e2
      cases e
      obtain ⟨rfl, f1, rfl⟩ := flatD_of e1 h1
      obtain ⟨rfl, f2, rfl⟩ := flatsD_of e2 h2
      exact ⟨rfl, by rw [List.all_cons, f1, f2]; rfl, rfl⟩
    · cases e
def D.has (x y : D) : Option Bool := match y with
  | .dct ks ds => (keyD x).map fun k => (atK ks ds k).isSome
  | .lst ds => match flatD x, flatsD ds with
    | some v, some vs => some (inV v vs)
    | _, _ => match x.py, (D.lst ds).py with
      | some p, some (.list ps) => if SeqAt.shaped p && SeqAt.shaped (.list ps) then some (ps.any fun z => PyData.eqv z p) else none
      | _, _ => none
  | .tup ds => match flatD x, flatsD ds with
    | some v, some vs => some (inV v vs)
    | _, _ => none
  | _ => none
def pIn (neg : Bool) : List D → Option D
  | [x, y] => (x.has y).map fun b => .bl (if neg then !b else b)
  | _ => none
abbrev rNotInAll (K : PySem.W.Frag) : R2 := fun x y H Q => rIn K true x y H Q ∨ ((∃ a o, y = .ref a ∧ DGet H a x o ∧ Q (.bl (!o.isSome)) H) ∨ rNotInD K x y H Q)
theorem op_notInAll (x : XOk G X) : OpR X (compareOp .NotIn) (rNotInAll X.K) := op_notIn_seq.or ((op_notInDict (by have := x.un; omega)).or (op_notInD (by have := x.un; omega)))
theorem has_some {H : Hp} {x y : D} {b : Bool} {v u : V} {A B : List Addr} (e : x.has y = some b) (h1 : Rds G H x v A) (h2 : Rds G H y u B) :
    (∃ p xs, u = .ref p ∧ (SqL G.K H p xs ∨ SqT G.K H p xs) ∧ flatV v = true ∧ xs.all flatV = true ∧ b = inV v xs) ∨ (∃ a o, u = .ref a ∧ DGet H a v o ∧ b = o.isSome) ∨
      ∃ d ds, Dp G.K H v d ∧ Dp G.K H u (.list ds) ∧ SeqAt.shaped d = true ∧ SeqAt.shaped (.list ds) = true ∧ b = ds.any fun z => PyData.eqv z d := by
  unfold D.has at e
  split at e
  · rename_i ks ds
    cases hk : keyD x with
    | none => rw [hk] at e; cases e
    | some k =>
      rw [hk] at e
      cases e
      obtain ⟨a, us, A', rfl, h3, ⟨rfl, hnd⟩, h4, rfl⟩ := rds_dct.mp h2
      have ev := rds_key hk h1
      subst ev
      refine .inr (.inl ⟨a, _, rfl, DGet.k h3, ?_⟩)
      have z := rdsL_atK (k := k) h4
      cases h5 : atK (us.map (·.1)) ds k with
      | none => rw [z.2 h5]; exact congrArg Option.isSome h5
      | some d' =>
        obtain ⟨v', _, h6, _⟩ := z.1 d' h5
        rw [h6]
        exact congrArg Option.isSome h5
  · rename_i ds
    obtain ⟨a, us, A', rfl, h3, h4, rfl⟩ := rds_lst.mp h2
    split at e
    · rename_i v' vs' e1 e2
      cases e
      obtain ⟨rfl, f1, _⟩ := flatD_of e1 h1
      obtain ⟨rfl, f2, _⟩ := flatsD_of e2 h4
      exact .inl ⟨a, us, rfl, .inl (SqL.of h3), f1, f2, rfl⟩
    · split at e
      · rename_i p ps e1 e2
        split at e
        · rename_i hs
          rw [Bool.and_eq_true] at hs
          cases e
          exact .inr (.inr ⟨p, ps, Rds.dp _ _ _ _ e1 h1, Rds.dp _ _ _ _ e2 h2, hs.1, hs.2, rfl⟩)
        · cases e
      · cases e
  · rename_i ds
    obtain ⟨a, us, rfl, h3, h4⟩ := rds_tup.mp h2
    split at e
    · rename_i v' vs' e1 e2
      cases e
      obtain ⟨rfl, f1, _⟩ := flatD_of e1 h1
      obtain ⟨rfl, f2, _⟩ := flatsD_of e2 h4
      exact .inl ⟨a, us, rfl, .inr h3, f1, f2, rfl⟩
    · cases e
  · cases e
theorem prim_notIn (hK : X.K = G.K) : PrimF G (r2 (rNotInAll X.K)) (pIn true) := fun H vs ds F Q d tb r e q => by
  rw [hK]
  unfold pIn at e
  split at e
  · rename_i x y
    cases e1 : x.has y with
    | none => rw [e1] at e; cases e
    | some b =>
      rw [e1] at e
      cases e
      obtain ⟨v, u, A, B, rfl, rfl, h1, h2⟩ := rdsL2 r
      refine ⟨v, u, rfl, ?_⟩
      rcases has_some e1 h1 h2 with ⟨p, xs, e2, e3, e4, e5, rfl⟩ | ⟨a, o, e2, e3, rfl⟩ | ⟨d, ds, e2, e3, e4, e5, rfl⟩
      · exact .inl ⟨p, xs, e2, e3, e4, e5, q_atom (hBl _) q⟩
      · exact .inr (.inl ⟨a, o, e2, e3, q_atom (hBl _) q⟩)
      · exact .inr (.inr ⟨d, ds, e2, e3, e4, e5, q_atom (hBl _) q⟩)
  · cases e
def D.tru : D → Option Bool
  | .non => some false
  | .bl b => some b
  | .int i => some (i != 0)
  | .lst ds => some (!ds.isEmpty)
  | .tup ds => some (!ds.isEmpty)
  | .dct ks _ => some (!ks.isEmpty)
  | .scr ns => some (!ns.isEmpty)
  | _ => none
def toTr (f : EF) : TF := fun E => match f E with
  | some (d, E') => (match d.tru with
    | some b => some (b, E')
    | none => none)
  | none => none
theorem isEmpty_len {α β : Type} {xs : List α} {ys : List β} (h : xs.length = ys.length) : xs.isEmpty = ys.isEmpty := by
  cases xs <;> cases ys <;> simp_all
theorem tru_of {H : Hp} {d : D} {b : Bool} {v : V} {F : List Addr} (e : d.tru = some b) (r : Rds G H d v F) : TruV G.K v H b := by
  cases d <;> unfold D.tru at e <;> cases e
  · rw [(rds_non.mp r).1]; rfl
  · rw [(rds_bl.mp r).1]; rfl
  · rw [(rds_int.mp r).1]; rfl
  · obtain ⟨a, us, rfl, h3, h4⟩ := rds_tup.mp r
    exact .inr (.inl ⟨us, h3, by rw [isEmpty_len (rdsL_len h4)]⟩)
  · obtain ⟨a, us, A', rfl, h3, h4, rfl⟩ := rds_lst.mp r
    exact .inl ⟨us, SqL.of h3, by rw [isEmpty_len (rdsL_len h4)]⟩
  · obtain ⟨a, us, A', rfl, h3, ⟨rfl, hnd⟩, h4, rfl⟩ := rds_dct.mp r
    exact .inr (.inr ⟨us, h3, by rw [List.isEmpty_map]⟩)
  · obtain ⟨a, rfl, h3, rfl⟩ := rds_scr.mp r
    exact .inl ⟨_, h3.sql, by rw [List.isEmpty_map]⟩
theorem vt_truth (x : XOk G X) {e : Expr} {M : List Nat} {k : Kind} {f : EF} (he : VE G X e M k f) (hi : ∀ whole, isTrue e X.env whole = (do let v ← whole; standAt e.pos; holding [v] (truthy v)) := by intro _; rfl) : VT G X e M (toTr f) :=
  PT.imp (pt_truth he hi) fun σ H Q ⟨C, E, Fs, R, b, E', e, q⟩ => by
    unfold toTr at e
    split at e
    · rename_i d E1 e1
      split at e
      · rename_i b' e2
        cases e
        exact ⟨C, E, Fs, R, _, _, e1, fun v H' Fs' F R' s' r' _ => ⟨b, by rw [x.K]; exact tru_of e2 r', q H' Fs' R' s'⟩⟩
      · cases e
    · cases e
abbrev RF := Env → Option (Int × Int × Env)
theorem PRg.imp {e : Expr} {t t' : L2.St → Hp → (Int → Int → Hp → Prop) → Prop} (h : PRg X e t) (i : ∀ σ H Q, t' σ H Q → t σ H Q) : PRg X e t' := fun pins s σ H Q I q => h pins s σ H Q I (i σ H Q q)
def rg1 (f : EF) : RF := fun E => match f E with
  | some (.int n, E') => some (0, n, E')
  | _ => none
def rg2 (f g : EF) : RF := fun E => match lCons f (lCons g lNil) E with
  | some ([.int i, .int j], E') => some (i, j, E')
  | _ => none
variable {a b e : Expr} {M M' : List Nat} {k k' : Kind} {f g : EF}
def rgI (a b : Int) : List Int := (List.range (b - a).toNat).map fun (i : Nat) => a + (i : Int)
def rgOk (a b : Int) : Bool := sl (decide (-(2 ^ 62) ≤ a ∧ a < 2 ^ 62 ∧ -(2 ^ 62) ≤ b ∧ b < 2 ^ 62 ∧ (b - a).toNat ≤ 2 ^ 24))
def eListRg (r : RF) : EF := fun E => match r E with
  | some (a, b, E') => if rgOk a b then some (.lst ((rgI a b).map .int), E') else none
  | none => none
end
end
end VL
set_option maxHeartbeats 4000000
namespace VL
noncomputable section
open PySem PySem.Spec PyProof.Rows L2
open GxR (TabB Tabbed)
variable [LamT]
def Mode.frz : Mode → Mode
  | .own => .shr
  | .io => .arg
  | .tip => .arg
  | m => m
def frz1 (E : Env) (j : Nat) : Env := match E[j]? with
  | some (some (m, d)) => E.set j (some (m.frz, d))
  | _ => E
def freeze (E : Env) (S : List Nat) : Env := S.foldl frz1 E
def newAll (E : Env) (S : List Nat) : Bool := S.all fun j => match E[j]? with
  | some (some (m, _)) => m.new
  | _ => true
def D.flat : D → Bool
  | .lst ds => D.atomL ds
  | .dct _ ds => D.atomL ds
  | _ => false
def putV (E : Env) (i : Nat) (S : List Nat) (d : D) : Env := (freeze E S).set i (some (if newAll E S then .shr else .arg, d))
def putE (E : Env) (i : Nat) (k : Kind) (d : D) : Env :=
  if d.atom then E.set i (some (.own, d)) else match k with
    | .own => E.set i (some (.own, d))
    | .top S => if d.flat then E.set i (some (.own, d)) else putV E i S d
    | .sub j => putV E i [j] d
    | .vw S => putV E i S d
    | .ref j => putV E i [j] d
abbrev FsSet (Fs : Nat → List Addr) (i : Nat) (F : List Addr) : Nat → List Addr := fun j => if j = i then F else Fs j
section
variable {G : Gb} {C : Ctx} {H : Hp} {σ : L2.St} {E : Env} {Fs : Nat → List Addr} {i : Nat} {d : D} {v : V} {F : List Addr} {m : Mode}
theorem Rel.set (R : Rel G C H σ E Fs) (hi : i < E.length) (rd : Rds G H d v F) (hio : m ≠ .io) (c1 : m.w = true → F.Nodup ∧ ∀ a ∈ F, ¬ C.T a)
    (c2 : ∀ j m' d', j ≠ i → E[j]? = some (some (m', d')) → (m.w = true ∨ m'.w = true) → ∀ a ∈ F, a ∉ Fs j) (c3 : m.new = true → ∀ a ∈ F, C.H0 a = none)
    (c4 : ∀ j d', j ≠ i → E[j]? = some (some (.tip, d')) → ∀ a r, Fs j = a :: r → a ∉ F) (ht : m ≠ .tip := by decide) :
    Rel G C H (σ.set i (some v)) (E.set i (some (m, d))) (FsSet Fs i F) where
  len := by rw [List.length_set, List.length_set]; exact R.len
  rd := fun j m' d' e => by
    by_cases h : j = i
    · subst h
      rw [List.getElem?_set_self hi] at e
      cases e
      exact ⟨v, by rw [List.getElem?_set_self (by rw [← R.len]; exact hi)], by rw [FsSet, if_pos rfl]; exact rd, fun z => absurd z hio⟩
    · rw [List.getElem?_set_ne (Ne.symm h)] at e
      obtain ⟨w, h1, h2, h3⟩ := R.rd j m' d' e
      exact ⟨w, by rw [List.getElem?_set_ne (Ne.symm h)]; exact h1, by rw [FsSet, if_neg h]; exact h2, h3⟩
  nd := fun j m' d' e hw => by
    by_cases h : j = i
    · subst h
      rw [List.getElem?_set_self hi] at e
      cases e
      rw [FsSet, if_pos rfl]
      refine ⟨(c1 hw).1, (c1 hw).2, fun j' m2 d2 hj e2 a ha => ?_⟩
      rw [List.getElem?_set_ne (Ne.symm hj)] at e2
      rw [FsSet, if_neg hj]
      exact c2 j' m2 d2 hj e2 (.inl hw) a ha
    · rw [List.getElem?_set_ne (Ne.symm h)] at e
      obtain ⟨h1, h2, h3⟩ := R.nd j m' d' e hw
      rw [FsSet, if_neg h]
      refine ⟨h1, h2, fun j' m2 d2 hj e2 a ha => ?_⟩
      by_cases h' : j' = i
      · subst h'
        rw [FsSet, if_pos rfl]
        exact fun hm => c2 j m' d' h e (.inr hw) a hm ha
      · rw [List.getElem?_set_ne (Ne.symm h')] at e2
        rw [FsSet, if_neg h']
        exact h3 j' m2 d2 hj e2 a ha
  nw := fun j m' d' e => by
    by_cases h : j = i
    · subst h
      rw [List.getElem?_set_self hi] at e
      cases e
      rw [FsSet, if_pos rfl]
      exact ⟨c3, fun z => absurd z hio⟩
    · rw [List.getElem?_set_ne (Ne.symm h)] at e
      rw [FsSet, if_neg h]
      exact R.nw j m' d' e
  fr := R.fr
  pr := R.pr
  pt := R.pt
  tb := R.tb
  tp := fun j d' e => by
    by_cases h : j = i
    · subst h
      rw [List.getElem?_set_self hi] at e
      cases e
      exact absurd rfl ht
    · rw [List.getElem?_set_ne (Ne.symm h)] at e
      obtain ⟨a, r, e1, e2, e3, e4, e5⟩ := R.tp j d' e
      refine ⟨a, r, by rw [FsSet, if_neg h]; exact e1, e2, e3, e4, fun j' m2 d2 hj e6 => ?_⟩
      by_cases h' : j' = i
      · subst h'
        rw [FsSet, if_pos rfl]
        exact c4 j d' h e a r e1
      · rw [List.getElem?_set_ne (Ne.symm h')] at e6
        rw [FsSet, if_neg h']
        exact e5 j' m2 d2 hj e6
theorem Rel.drop (R : Rel G C H σ E Fs) (i : Nat) : Rel G C H σ (E.set i none) Fs := by
  have h : ∀ {j m' d'}, (E.set i none)[j]? = some (some (m', d')) → E[j]? = some (some (m', d')) ∧ j ≠ i := fun {j m' d'} e => by
    by_cases h : j = i
    · subst h
      by_cases hj : j < E.length
      · rw [List.getElem?_set_self hj] at e
        cases e
      · rw [List.getElem?_eq_none (by rw [List.length_set]; omega)] at e
        cases e
    · rw [List.getElem?_set_ne (Ne.symm h)] at e
      exact ⟨e, h⟩
  exact ⟨by rw [List.length_set]; exact R.len, fun j m' d' e => R.rd j m' d' (h e).1, fun j m' d' e hw => let ⟨a, b, c⟩ := R.nd j m' d' (h e).1 hw; ⟨a, b, fun j' m2 d2 hj e2 => c j' m2 d2 hj (h e2).1⟩, fun j m' d' e => R.nw j m' d' (h e).1, R.fr, R.pr, R.pt, R.tb, fun j d' e => let ⟨a, r, e1, e2, e3, e4, e5⟩ := R.tp j d' (h e).1; ⟨a, r, e1, e2, e3, e4, fun j' m2 d2 hj e6 => e5 j' m2 d2 hj (h e6).1⟩⟩
theorem Mode.frz_w (m : Mode) : m.frz.w = false := by cases m <;> rfl
theorem Mode.frz_new (m : Mode) : m.frz.new = m.new := by cases m <;> rfl
theorem Mode.frz_io (m : Mode) : m.frz ≠ .io := by cases m <;> decide
theorem Mode.frz_tip (m : Mode) : m.frz ≠ .tip := by cases m <;> decide
theorem frz1_get {j l : Nat} : (∀ m d, E[l]? = some (some (m, d)) → ∃ m', (frz1 E j)[l]? = some (some (m', d)) ∧ (m' = m ∨ m' = m.frz) ∧ (l = j → m' = m.frz)) ∧ (∀ m d, (frz1 E j)[l]? = some (some (m, d)) → ∃ m0, E[l]? = some (some (m0, d)) ∧ (m = m0 ∨ m = m0.frz) ∧ (l = j → m = m0.frz)) := by
  unfold frz1
  split
  · rename_i m0 d0 e0
    have hj : j < E.length := (List.getElem?_eq_some_iff.mp e0).1
    by_cases h : l = j
    · subst h
      rw [List.getElem?_set_self hj, e0]
      exact ⟨fun m d e => by cases e; exact ⟨_, rfl, .inr rfl, fun _ => rfl⟩, fun m d e => by cases e; exact ⟨_, rfl, .inr rfl, fun _ => rfl⟩⟩
    · rw [List.getElem?_set_ne (Ne.symm h)]
      exact ⟨fun m d e => ⟨m, e, .inl rfl, fun z => absurd z h⟩, fun m d e => ⟨m, e, .inl rfl, fun z => absurd z h⟩⟩
  · rename_i hn
    exact ⟨fun m d e => ⟨m, e, .inl rfl, fun z => by subst z; exact absurd e (hn m d)⟩, fun m d e => ⟨m, e, .inl rfl, fun z => by subst z; exact absurd e (hn m d)⟩⟩
theorem frz1_len {j : Nat} : (frz1 E j).length = E.length := by
  unfold frz1
  split
  · rw [List.length_set]
  · rfl
theorem Rel.frz1 {j : Nat} (R : Rel G C H σ E Fs) : Rel G C H σ (frz1 E j) Fs where
  len := by rw [frz1_len]; exact R.len
  rd := fun l m d e => by
    obtain ⟨m0, e0, h1, h2⟩ := frz1_get.2 m d e
    obtain ⟨w, z1, z2, z3⟩ := R.rd l m0 d e0
    refine ⟨w, z1, z2, fun z => ?_⟩
    rcases h1 with rfl | rfl
    · exact z3 z
    · exact absurd z (Mode.frz_io m0)
  nd := fun l m d e hw => by
    obtain ⟨m0, e0, h1, h2⟩ := frz1_get.2 m d e
    rcases h1 with rfl | rfl
    · obtain ⟨z1, z2, z3⟩ := R.nd l _ d e0 hw
      exact ⟨z1, z2, fun l' m' d' hl e' => let ⟨m1, e1, _⟩ := frz1_get.2 m' d' e'; z3 l' m1 d' hl e1⟩
    · rw [Mode.frz_w] at hw
      cases hw
  nw := fun l m d e => by
    obtain ⟨m0, e0, h1, h2⟩ := frz1_get.2 m d e
    obtain ⟨z1, z2⟩ := R.nw l m0 d e0
    rcases h1 with rfl | rfl
    · exact ⟨z1, z2⟩
    · exact ⟨by rw [Mode.frz_new]; exact z1, fun z => absurd z (Mode.frz_io m0)⟩
  fr := R.fr
  pr := R.pr
  pt := R.pt
  tb := R.tb
  tp := fun l d e => by
    obtain ⟨m0, e0, h1, h2⟩ := frz1_get.2 .tip d e
    rcases h1 with h1 | h1
    · subst h1
      obtain ⟨a, r, e1, e2, e3, e4, e5⟩ := R.tp l d e0
      exact ⟨a, r, e1, e2, e3, e4, fun j' m2 d2 hj e6 => let ⟨m1, e7, _⟩ := frz1_get.2 m2 d2 e6; e5 j' m1 d2 hj e7⟩
    · exact absurd h1.symm (Mode.frz_tip m0)
theorem freeze_get : ∀ {S : List Nat} {E : Env} {l : Nat}, (∀ m d, E[l]? = some (some (m, d)) → ∃ m', (freeze E S)[l]? = some (some (m', d)) ∧ (l ∈ S → m'.w = false)) ∧ (∀ m d, (freeze E S)[l]? = some (some (m, d)) → ∃ m0, E[l]? = some (some (m0, d)) ∧ (m.w = true → m = m0 ∧ l ∉ S))
  | [], E, l => ⟨fun m d e => ⟨m, e, fun z => by cases z⟩, fun m d e => ⟨m, e, fun z => ⟨rfl, by simp⟩⟩⟩
  | j :: S, E, l => by
    have ih := @freeze_get S (frz1 E j) l
    have z := @frz1_get _ E j l
    refine ⟨fun m d e => ?_, fun m d e => ?_⟩
    · obtain ⟨m1, e1, h1, h2⟩ := z.1 m d e
      obtain ⟨m2, e2, h3⟩ := ih.1 m1 d e1
      refine ⟨m2, e2, fun hl => ?_⟩
      rcases List.mem_cons.mp hl with hl | hl
      · obtain ⟨m3, e3, h4⟩ := ih.2 m2 d e2
        cases hw : m2.w with
        | false => rfl
        | true =>
          obtain ⟨e4, _⟩ := h4 hw
          rw [e1] at e3
          cases e3
          rw [e4, h2 hl, Mode.frz_w] at hw
          cases hw
      · exact h3 hl
    · obtain ⟨m1, e1, h1⟩ := ih.2 m d e
      obtain ⟨m0, e0, h2, h3⟩ := z.2 m1 d e1
      refine ⟨m0, e0, fun hw => ?_⟩
      obtain ⟨h4, h5⟩ := h1 hw
      subst h4
      rcases h2 with rfl | rfl
      · refine ⟨rfl, fun hm => ?_⟩
        rcases List.mem_cons.mp hm with hm | hm
        · rw [h3 hm, Mode.frz_w] at hw
          cases hw
        · exact h5 hm
      · rw [Mode.frz_w] at hw
        cases hw
theorem freeze_tip : ∀ {S : List Nat} {E : Env} {l : Nat} {d : D}, (freeze E S)[l]? = some (some (.tip, d)) → E[l]? = some (some (.tip, d)) ∧ l ∉ S
  | [], E, l, d, e => ⟨e, by simp⟩
  | j :: S, E, l, d, e => by
    obtain ⟨e1, h1⟩ := freeze_tip (S := S) (E := frz1 E j) e
    obtain ⟨m0, e0, h2, h3⟩ := frz1_get.2 .tip d e1
    have hj : l ≠ j := fun z => Mode.frz_tip m0 (h3 z).symm
    rcases h2 with h2 | h2
    · subst h2
      exact ⟨e0, fun hm => (List.mem_cons.mp hm).elim hj h1⟩
    · exact absurd h2.symm (Mode.frz_tip m0)
theorem freeze_len : ∀ {S : List Nat} {E : Env}, (freeze E S).length = E.length
  | [], _ => rfl
  | j :: S, E => (freeze_len (S := S) (E := VL.frz1 E j)).trans frz1_len
theorem Rel.freeze : ∀ {S : List Nat} {E : Env}, Rel G C H σ E Fs → Rel G C H σ (VL.freeze E S) Fs
  | [], _, R => R
  | j :: S, E, R => Rel.freeze (S := S) (R.frz1 (j := j))
theorem FsSet_self : FsSet Fs i F i = F := if_pos rfl
theorem Rel.putV {S : List Nat} {H1 : Hp} (R : Rel G C H σ E Fs) (hi : i < E.length) (hn : ∀ a, H1 a = none → C.H0 a = none ∧ ¬ C.T a) (rd : Rds G H d v F) (vw : Vw H1 E Fs S F) : Rel G C H (σ.set i (some v)) (putV E i S d) (FsSet Fs i F) := by
  have R1 := R.freeze (S := S)
  unfold VL.putV
  have asg : ∀ {j}, Asg E j → ∀ a, a ∈ Fs j → newAll E S = true → j ∈ S → C.H0 a = none := fun {j} ⟨m, d, e⟩ a ha hn hj => by
    have z := List.all_eq_true.mp hn j hj
    rw [e] at z
    exact (R.nw j m d e).1 z a ha
  have c2 : ∀ m, m = Mode.shr ∨ m = Mode.arg → ∀ j m' d', j ≠ i → (VL.freeze E S)[j]? = some (some (m', d')) → (m.w = true ∨ m'.w = true) → ∀ a ∈ F, a ∉ Fs j := fun m hm j m' d' hj e hw a ha hf => by
    have hw' : m'.w = true := hw.elim (fun z => by rcases hm with rfl | rfl <;> cases z) id
    obtain ⟨m0, e0, h0⟩ := freeze_get.2 m' d' e
    obtain ⟨h1, h2⟩ := h0 hw'
    subst h1
    rcases vw a ha with ⟨s, hs, ⟨m3, d3, e3⟩, h3⟩ | h3
    · exact (R.nd j _ d' e0 hw').2.2 s m3 d3 (fun z => h2 (by rw [← z]; exact hs)) e3 a hf h3
    · exact h3.2 j ⟨_, _, e0⟩ hf
  have c4 : ∀ j d', j ≠ i → (VL.freeze E S)[j]? = some (some (.tip, d')) → ∀ a r, Fs j = a :: r → a ∉ F := fun j d' hj e a r ef ha => by
    obtain ⟨e0, hS⟩ := freeze_tip e
    obtain ⟨a', r', f1, _, _, _, f5⟩ := R.tp j d' e0
    rw [ef] at f1
    cases f1
    rcases vw a ha with ⟨s, hs, ⟨m3, d3, e3⟩, h3⟩ | h3
    · exact f5 s m3 d3 (fun z => hS (by rw [← z]; exact hs)) e3 h3
    · exact h3.2 j ⟨_, _, e0⟩ (by rw [ef]; exact List.mem_cons_self)
  split
  · rename_i hnew
    refine R1.set (by rw [freeze_len]; exact hi) rd (by decide) (fun z => by cases z) (c2 _ (.inl rfl)) (fun _ a ha => ?_) c4
    rcases vw a ha with ⟨s, hs, h2, h3⟩ | h3
    · exact asg h2 a h3 hnew hs
    · exact (hn a h3.1).1
  · exact R1.set (by rw [freeze_len]; exact hi) rd (by decide) (fun z => by cases z) (c2 _ (.inr rfl)) (fun z => by cases z) c4
theorem Rel.setOwn {H1 : Hp} (R : Rel G C H σ E Fs) (hi : i < E.length) (hn : ∀ a, H1 a = none → C.H0 a = none ∧ ¬ C.T a) (rd : Rds G H d v F) (nd : F.Nodup) (l : ∀ a ∈ F, Loose H1 E Fs a) : Rel G C H (σ.set i (some v)) (E.set i (some (.own, d))) (FsSet Fs i F) :=
  R.set hi rd (by decide) (fun _ => ⟨nd, fun a ha => (hn a (l a ha).1).2⟩) (fun j m' d' hj e _ a ha => (l a ha).2 j ⟨m', d', e⟩) (fun _ a ha => (hn a (l a ha).1).1) (fun j d' hj e a r ef ha => (l a ha).2 j ⟨_, _, e⟩ (by rw [ef]; exact List.mem_cons_self))
theorem flat_one {d : D} {v : V} {F : List Addr} (hf : d.flat = true) (r : Rds G H d v F) : ∃ a, F = [a] ∧ d.node = true := by
  cases d <;> unfold D.flat at hf <;> first | cases hf | skip
  · obtain ⟨a, us, A, rfl, h3, h4, rfl⟩ := rds_lst.mp r
    rw [RdsL.atom _ _ _ hf h4]
    exact ⟨a, rfl, rfl⟩
  · obtain ⟨a, us, A, rfl, h3, _, h4, rfl⟩ := rds_dct.mp r
    rw [RdsL.atom _ _ _ hf h4]
    exact ⟨a, rfl, rfl⟩
theorem Rel.putE {H1 : Hp} {k : Kind} (R : Rel G C H σ E Fs) (hi : i < E.length) (hn : ∀ a, H1 a = none → C.H0 a = none ∧ ¬ C.T a) (rd : Rds G H d v F) (ko : KOk σ H1 E Fs k d v F) : Rel G C H (σ.set i (some v)) (putE E i k d) (FsSet Fs i F) := by
  unfold VL.putE
  split
  · rename_i ha
    have e := Rds.atom d v F ha rd
    subst e
    exact R.setOwn (H1 := H1) hi hn rd List.nodup_nil (fun a h => by cases h)
  · cases k with
    | own => exact R.setOwn hi hn rd ko.1 (fun a ha => (ko.2 a ha).elim (fun ⟨_, z, _⟩ => by cases z) id)
    | sub j => exact R.putV hi hn rd (KOk.vw (k := .sub j) (d := d) ko)
    | top S =>
      dsimp only
      split
      · rename_i hf
        obtain ⟨a, rfl, hnode⟩ := flat_one hf rd
        refine R.setOwn hi hn rd (by simp) (fun b hb => ?_)
        rw [List.mem_singleton.mp hb]
        exact ko.2 a [] hnode rfl
      · exact R.putV hi hn rd ko.1
    | vw S => exact R.putV hi hn rd ko
    | ref j => exact R.putV hi hn rd (KOk.vw (k := .ref j) (d := d) ko)
theorem Rel.hn {H1 : Hp} {σ1 : L2.St} {E1 : Env} {Fs1 : Nat → List Addr} (R : Rel G C H1 σ1 E1 Fs1) : ∀ a, H1 a = none → C.H0 a = none ∧ ¬ C.T a := fun a n => ⟨R.fr.back n, fun t => by
  obtain ⟨o, e, _⟩ := R.pt a t
  obtain ⟨o', e'⟩ := R.pr.there e
  rw [n] at e'
  cases e'⟩
end
inductive Out where
  | nx (E : Env) | rt (d : D) (E : Env) | bk (E : Env) | ct (E : Env)
abbrev SF := Env → Option Out
def RetOk (ro : Bool) (C : Ctx) (E : Env) (Fs : Nat → List Addr) (F : List Addr) : Prop := (ro = true → F.Nodup) ∧ ∀ a ∈ F, C.H0 a = none ∧ ∀ i d, E[i]? = some (some (.io, d)) → a ∉ Fs i
def Post (G : Gb) (ro : Bool) (C : Ctx) (N : Ends) : Out → Prop
  | .nx E => ∀ σ H Fs, Rel G C H σ E Fs → N.nx σ H
  | .bk E => ∀ σ H Fs, Rel G C H σ E Fs → N.bk σ H
  | .ct E => ∀ σ H Fs, Rel G C H σ E Fs → N.ct σ H
  | .rt d E => ∀ v σ H Fs F, Rel G C H σ E Fs → Rds G H d v F → RetOk ro C E Fs F → N.rt v H
def tVS (G : Gb) (ro : Bool) (S : SF) : TS := fun N σ H => ∃ C E Fs, Rel G C H σ E Fs ∧ ∃ o, S E = some o ∧ Post G ro C N o
abbrev VS (G : Gb) (X : Cx) (ro : Bool) (st : Stmt) (S : SF) : Prop := PS X st (tVS G ro S)
abbrev VSs (G : Gb) (X : Cx) (ro : Bool) (sts : List Stmt) (S : SF) : Prop := PSs X sts (tVS G ro S)
def sNext : SF := fun E => some (.nx E)
def sNever : SF := fun _ => none
def sSeq (S T : SF) : SF := fun E => match S E with
  | some (.nx E') => T E'
  | r => r
section
variable {G : Gb} {X : Cx} {ro : Bool} {st : Stmt} {rest : List Stmt} {S T : SF} {e : Expr} {M : List Nat} {k : Kind} {f : EF} {pos : Pos}
theorem vss_nil : VSs G X ro [] sNext := PSs.imp pss_nil fun N σ H ⟨C, E, Fs, R, o, e, q⟩ => by
  cases e
  exact q σ H Fs R
theorem vs_never : VS G X ro st sNever := PS.imp ps_never fun N σ H ⟨C, E, Fs, R, o, e, q⟩ => by cases e
theorem vss_cons (h1 : VS G X ro st S) (h2 : VSs G X ro rest T) : VSs G X ro (st :: rest) (sSeq S T) := PSs.imp (pss_cons h1 h2) fun N σ H ⟨C, E, Fs, R, o, e, q⟩ => by
  unfold sSeq at e
  split at e
  · rename_i E1 e1
    exact ⟨C, E, Fs, R, _, e1, fun σ1 H1 Fs1 R1 => ⟨C, E1, Fs1, R1, o, e, q⟩⟩
  · rename_i hn
    refine ⟨C, E, Fs, R, o, e, ?_⟩
    cases o with
    | nx E' => exact absurd e (hn E')
    | rt d E' => exact q
    | bk E' => exact q
    | ct E' => exact q
theorem vss_one (h1 : VS G X ro st S) : VSs G X ro [st] S := pss_one h1
def sDrop (f : EF) : SF := fun E => match f E with
  | some (_, E') => some (.nx E')
  | none => none
theorem vs_expr (he : VE G X e M k f) (hs : swapsWith e none pos.line X.env = pure false := by rfl) : VS G X ro (.Expr e pos) (sDrop f) := PS.imp (ps_expr he hs) fun N σ H ⟨C, E, Fs, R, o, e, q⟩ => by
  unfold sDrop at e
  split at e
  · rename_i d E1 e1
    cases e
    exact ⟨C, E, Fs, R, d, E1, e1, fun v H' Fs' F R' s' r' k' => q σ H' Fs' R'⟩
  · cases e
def allNew (E : Env) (S : List Nat) : Bool := S.all fun j => match E[j]? with
  | some (some (m, _)) => m.new
  | _ => true
def retOk (ro : Bool) (k : Kind) (E : Env) (d : D) : Bool := d.atom || match k with
  | .own => true
  | .sub i => (match E[i]? with
    | some (some (.own, _)) => true
    | some (some (.shr, _)) => !ro
    | _ => false)
  | .top S => d.flat || (!ro && allNew E S)
  | .vw S => !ro && allNew E S
  | .ref _ => false
def sRet (ro : Bool) (k : Kind) (f : EF) : SF := fun E => match f E with
  | some (d, E') => if retOk ro k E' d then some (.rt d E') else none
  | none => none
theorem retOk_of {C : Ctx} {H H1 : Hp} {σ : L2.St} {E : Env} {Fs : Nat → List Addr} {d : D} {v : V} {F : List Addr} (h : retOk ro k E d = true) (R : Rel G C H σ E Fs) (hn : ∀ a, H1 a = none → C.H0 a = none ∧ ¬ C.T a) (rd : Rds G H d v F) (ko : KOk σ H1 E Fs k d v F) : RetOk ro C E Fs F := by
  have vwCase : ∀ {S : List Nat}, allNew E S = true → Vw H1 E Fs S F → ∀ a ∈ F, C.H0 a = none ∧ ∀ i d, E[i]? = some (some (.io, d)) → a ∉ Fs i := fun {S} hS vw a ha => by
    rcases vw a ha with ⟨s, hs, ⟨m, d, e⟩, h3⟩ | h3
    · have z := List.all_eq_true.mp hS s hs
      rw [e] at z
      refine ⟨(R.nw s m d e).1 z a h3, fun i d' e' hi => ?_⟩
      by_cases hsi : s = i
      · subst hsi
        rw [e] at e'
        cases e'
        cases z
      · exact (R.nd i .io d' e' rfl).2.2 s m d hsi e a hi h3
    · exact ⟨(hn a h3.1).1, fun i d' e' => h3.2 i ⟨_, _, e'⟩⟩
  unfold retOk at h
  rw [Bool.or_eq_true] at h
  rcases h with h | h
  · have e := Rds.atom d v F h rd
    subst e
    exact ⟨fun _ => List.nodup_nil, fun a ha => by cases ha⟩
  · cases k with
    | own => exact ⟨fun _ => ko.1, fun a ha => vwCase (S := []) rfl ko.2 a ha⟩
    | sub i =>
      dsimp only at h
      split at h
      · rename_i d' e
        exact ⟨fun _ => ko.2.nodup (R.nd i _ _ e rfl).1, fun a ha => vwCase (S := [i]) (by simp only [allNew, List.all_cons, e, List.all_nil]; rfl) (KOk.vw (k := .sub i) (d := d) ko) a ha⟩
      · rename_i d' e
        refine ⟨fun z => ?_, fun a ha => vwCase (S := [i]) (by simp only [allNew, List.all_cons, e, List.all_nil]; rfl) (KOk.vw (k := .sub i) (d := d) ko) a ha⟩
        rw [z] at h
        cases h
      · cases h
    | top S =>
      dsimp only at h
      rw [Bool.or_eq_true, Bool.and_eq_true] at h
      rcases h with h | ⟨h1, h2⟩
      · obtain ⟨a, rfl, hnode⟩ := flat_one h rd
        have l := ko.2 a [] hnode rfl
        refine ⟨fun _ => by simp, fun b hb => ?_⟩
        rw [List.mem_singleton.mp hb]
        exact ⟨(hn a l.1).1, fun i d' e' => l.2 i ⟨_, _, e'⟩⟩
      · refine ⟨fun z => ?_, vwCase h2 ko.1⟩
        rw [z] at h1
        cases h1
    | vw S =>
      dsimp only at h
      rw [Bool.and_eq_true] at h
      refine ⟨fun z => ?_, vwCase h.2 ko⟩
      rw [z] at h
      cases h.1
    | ref i => cases h
theorem vs_ret (he : VE G X e M k f) : VS G X ro (.Return (some e) pos) (sRet ro k f) := PS.imp (ps_ret he) fun N σ H ⟨C, E, Fs, R, o, e, q⟩ => by
  unfold sRet at e
  split at e
  · rename_i d E1 e1
    split at e
    · rename_i hr
      cases e
      exact ⟨C, E, Fs, R, d, E1, e1, fun v H' Fs' F R' s' r' k' => q v σ H' Fs' F R' r' (retOk_of hr R' R.hn r' k')⟩
    · cases e
  · cases e
def sRetN : SF := fun E => some (.rt .non E)
def sIf (t : TF) (S T : SF) : SF := fun E => match t E with
  | some (true, E') => S E'
  | some (false, E') => T E'
  | none => none
theorem vs_if {c : Expr} {a b : List Stmt} {t : TF} (hc : VT G X c M t) (ha : VSs G X ro a S) (hb : VSs G X ro b T) : VS G X ro (.If c a b pos) (sIf t S T) := PS.imp (ps_if hc ha hb) fun N σ H ⟨C, E, Fs, R, o, e, q⟩ => by
  unfold sIf at e
  split at e
  · rename_i E1 e1
    refine ⟨C, E, Fs, R, true, E1, e1, fun H1 Fs1 R1 s1 => ?_⟩
    exact ite_tt ⟨C, E1, Fs1, R1, o, e, q⟩
  · rename_i E1 e1
    refine ⟨C, E, Fs, R, false, E1, e1, fun H1 Fs1 R1 s1 => ?_⟩
    exact ite_ff ⟨C, E1, Fs1, R1, o, e, q⟩
  · cases e
def sSet (i : Nat) (k : Kind) (f : EF) : SF := fun E => match f E with
  | some (d, E') => if i < E'.length then some (.nx (putE E' i k d)) else none
  | none => none
theorem asg_set {i : Nat} {N : Ends} {σ : L2.St} {H : Hp} (h : tVS G ro (sSet i k f) N σ H) : tV G M k f σ H fun x H1 => gName i x σ H1 N.nx := by
  obtain ⟨C, E, Fs, R, o, e, q⟩ := h
  unfold sSet at e
  split at e
  · rename_i d E1 e1
    split at e
    · rename_i hi
      cases e
      exact ⟨C, E, Fs, R, d, E1, e1, fun v H' Fs' F R' s' r' k' => q _ _ _ (R'.putE hi R.hn r' k')⟩
    · cases e
  · cases e
theorem vs_set {i : Nat} {x : Str} {pos' : Pos} (hN : X.N.Nodup) (hi : X.N[i]? = some x) (hx : Loc X.env.scope x) (he : VE G X e M k f) (hs : swapsWith e (some (.Name x pos')) pos.line X.env = pure false := by rfl)
    (hf : X.fn x = true ∨ X.env.scope.names.lookup x = some .local := by first | exact .inl rfl | exact .inr rfl | assumption) : VS G X ro (.Assign [.Name x pos'] e pos) (sSet i k f) :=
  PS.imp (ps_set hN hi hx he hs hf) fun N σ H h => asg_set (M := M) h
end
end
end VL
set_option maxHeartbeats 4000000
namespace VL
noncomputable section
open PySem PySem.Spec PyProof.Rows L2
open GxR (TabB Tabbed)
variable [LamT]
inductive BK where
  | ex (k : Kind) | pr (b : Bool)
def putP (E : Env) (i : Nat) (b : Bool) (d : D) : Env := if d.atom then E.set i (some (.own, d)) else E.set i (some (if b then .shr else .arg, d))
def bindN (bk : BK) (i : Nat) (d : D) (E : Env) : Env := match bk with
  | .ex k => putE E i k d
  | .pr b => putP E i b d
def BK.part : BK → BK
  | .ex k => .ex (kPart [k])
  | .pr b => .pr b
def BK.S : BK → List Nat
  | .ex k => k.S
  | .pr _ => []
def BOk (σ : L2.St) (C : Ctx) (H : Hp) (E : Env) (Fs : Nat → List Addr) (bk : BK) (d : D) (v : V) (F : List Addr) : Prop := match bk with
  | .ex k => KOk σ H E Fs k d v F
  | .pr b => (∀ a ∈ F, C.T a) ∧ (b = true → ∀ a ∈ F, C.H0 a = none)
def BOkL (C : Ctx) (H : Hp) (E : Env) (Fs : Nat → List Addr) (bk : BK) (F : List Addr) : Prop := match bk with
  | .ex .own => F.Nodup ∧ Vw H E Fs [] F
  | .ex (.sub i) => Asg E i ∧ F.Sublist (Fs i)
  | .ex (.ref i) => Asg E i ∧ F.Sublist (Fs i)
  | .ex (.top S) => Vw H E Fs S F
  | .ex (.vw S) => Vw H E Fs S F
  | .pr b => (∀ a ∈ F, C.T a) ∧ (b = true → ∀ a ∈ F, C.H0 a = none)
structure BStp (bk : BK) (W : List Nat) (F : List Addr) (σ σ' : L2.St) (E E' : Env) (Fs Fs' : Nat → List Addr) : Prop where
  fs : ∀ i, i ∉ W → Fs' i = Fs i
  inW : ∀ i ∈ W, ∀ a ∈ Fs' i, a ∈ F
  asg : ∀ i, i ∉ W → (Asg E' i ↔ Asg E i)
  aw : ∀ i ∈ W, Asg E' i
  cov : ∀ a ∈ F, ∃ i ∈ W, a ∈ Fs' i
  len : σ'.length = σ.length
  sg : ∀ i, i ∉ W → σ'[i]? = σ[i]?
  env : ∀ b, bk = .pr b → ∀ i, i ∉ W → E'[i]? = E[i]?
def tVG (G : Gb) (bk : BK) (W : List Nat) (g : D → Env → Option Env) : TG := fun v σ H Q => ∃ C E Fs H1 F d, Rel G C H σ E Fs ∧ (∀ a, H1 a = none → C.H0 a = none ∧ ¬ C.T a) ∧ Rds G H d v F ∧ BOk σ C H1 E Fs bk d v F ∧
  ∃ E', g d E = some E' ∧ ∀ σ' Fs', Rel G C H σ' E' Fs' → BStp bk W F σ σ' E E' Fs Fs' → Q σ' H
abbrev VG (G : Gb) (X : Cx) (t : Expr) (bk : BK) (W : List Nat) (g : D → Env → Option Env) : Prop := PG X t (tVG G bk W g)
def tVGs (G : Gb) (bk : BK) (W : List Nat) (g : List D → Env → Option Env) : TGs := fun vs σ H Q => ∃ C E Fs H1 F ds, Rel G C H σ E Fs ∧ (∀ a, H1 a = none → C.H0 a = none ∧ ¬ C.T a) ∧ RdsL G H ds vs F ∧ BOkL C H1 E Fs bk F ∧
  ∃ E', g ds E = some E' ∧ ∀ σ' Fs', Rel G C H σ' E' Fs' → BStp bk W F σ σ' E E' Fs Fs' → Q σ' H
abbrev VGs (G : Gb) (X : Cx) (t : List Expr) (bk : BK) (W : List Nat) (g : List D → Env → Option Env) : Prop := PGs X t (tVGs G bk W g)
theorem PG.imp {X : Cx} {e : Expr} {t t' : TG} (h : PG X e t) (i : ∀ v σ H Q, t' v σ H Q → t v σ H Q) : PG X e t' := ⟨fun pins s σ H v u Q I r q => h.run pins s σ H v u Q I r (i v σ H Q q)⟩
theorem PGs.imp {X : Cx} {e : List Expr} {t t' : TGs} (h : PGs X e t) (i : ∀ v σ H Q, t' v σ H Q → t v σ H Q) : PGs X e t' := ⟨fun pins s σ H v u Q I r q => h.run pins s σ H v u Q I r (i v σ H Q q)⟩
def gSet (bk : BK) (i : Nat) : D → Env → Option Env := fun d E => if i < E.length then some (bindN bk i d E) else none
section
variable {G : Gb} {X : Cx} {C : Ctx} {H : Hp} {σ : L2.St} {E : Env} {Fs : Nat → List Addr} {i : Nat} {d : D} {v : V} {F : List Addr} {bk : BK}
theorem Rel.putP {b : Bool} (R : Rel G C H σ E Fs) (hi : i < E.length) (rd : Rds G H d v F) (h : (∀ a ∈ F, C.T a) ∧ (b = true → ∀ a ∈ F, C.H0 a = none)) : Rel G C H (σ.set i (some v)) (putP E i b d) (FsSet Fs i F) := by
  unfold VL.putP
  split
  · rename_i ha
    have e := Rds.atom d v F ha rd
    subst e
    exact R.setOwn (H1 := H) hi R.hn rd List.nodup_nil (fun a h => by cases h)
  · have c2 : ∀ m : Mode, m.w = false → ∀ j m' d', j ≠ i → E[j]? = some (some (m', d')) → (m.w = true ∨ m'.w = true) → ∀ a ∈ F, a ∉ Fs j := fun m hm j m' d' hj e hw a ha hf => by
      have hw' : m'.w = true := hw.elim (fun z => by rw [hm] at z; cases z) id
      exact (R.nd j m' d' e hw').2.1 a hf (h.1 a ha)
    have c4 : ∀ j d', j ≠ i → E[j]? = some (some (.tip, d')) → ∀ a r, Fs j = a :: r → a ∉ F := fun j d' hj e a r ef ha => by
      obtain ⟨a', r', f1, _, _, f4, _⟩ := R.tp j d' e
      rw [ef] at f1
      cases f1
      exact f4 (h.1 a ha)
    cases b with
    | true => exact R.set hi rd (by decide) (fun z => by cases z) (c2 _ rfl) (fun _ => h.2 rfl) c4
    | false => exact R.set hi rd (by decide) (fun z => by cases z) (c2 _ rfl) (fun z => by cases z) c4
theorem asg_frz {S : List Nat} {j : Nat} : Asg (freeze E S) j ↔ Asg E j :=
  ⟨fun ⟨m, d, e⟩ => let ⟨m0, e0, _⟩ := freeze_get.2 m d e; ⟨m0, d, e0⟩, fun ⟨m, d, e⟩ => let ⟨m0, e0, _⟩ := freeze_get.1 m d e; ⟨m0, d, e0⟩⟩
theorem asg_set_ne {x : Option (Mode × D)} {j : Nat} (h : j ≠ i) : Asg (E.set i x) j ↔ Asg E j := by
  unfold Asg
  rw [List.getElem?_set_ne (Ne.symm h)]
theorem asg_putV {S : List Nat} {j : Nat} (h : j ≠ i) : Asg (putV E i S d) j ↔ Asg E j := by
  unfold putV
  rw [asg_set_ne h, asg_frz]
theorem asg_bind {j : Nat} (h : j ≠ i) : Asg (bindN bk i d E) j ↔ Asg E j := by
  cases bk with
  | ex k =>
    show Asg (putE E i k d) j ↔ _
    unfold putE
    split
    · exact asg_set_ne h
    · cases k with
      | own => exact asg_set_ne h
      | sub l => exact asg_putV h
      | ref l => exact asg_putV h
      | vw S => exact asg_putV h
      | top S =>
        dsimp only
        split
        · exact asg_set_ne h
        · exact asg_putV h
  | pr b =>
    show Asg (putP E i b d) j ↔ _
    unfold putP
    split
    · exact asg_set_ne h
    · exact asg_set_ne h
theorem get_set_self {x : Mode × D} (hi : i < E.length) : Asg (E.set i (some x)) i := ⟨x.1, x.2, List.getElem?_set_self hi⟩
theorem asg_putV_self {S : List Nat} (hi : i < E.length) : Asg (putV E i S d) i := by
  unfold putV
  exact get_set_self (by rw [freeze_len]; exact hi)
theorem asg_bind_self (hi : i < E.length) : Asg (bindN bk i d E) i := by
  cases bk with
  | ex k =>
    show Asg (putE E i k d) i
    unfold putE
    split
    · exact get_set_self hi
    · cases k with
      | own => exact get_set_self hi
      | sub l => exact asg_putV_self hi
      | ref l => exact asg_putV_self hi
      | vw S => exact asg_putV_self hi
      | top S =>
        dsimp only
        split
        · exact get_set_self hi
        · exact asg_putV_self hi
  | pr b =>
    show Asg (putP E i b d) i
    unfold putP
    split
    · exact get_set_self hi
    · exact get_set_self hi
theorem Rel.bind {H1 : Hp} (R : Rel G C H σ E Fs) (hi : i < E.length) (hn : ∀ a, H1 a = none → C.H0 a = none ∧ ¬ C.T a) (rd : Rds G H d v F) (bo : BOk σ C H1 E Fs bk d v F) : Rel G C H (σ.set i (some v)) (bindN bk i d E) (FsSet Fs i F) ∧ BStp bk [i] F σ (σ.set i (some v)) E (bindN bk i d E) Fs (FsSet Fs i F) := by
  refine ⟨?_, fun j hj => if_neg fun z => hj (by rw [z]; exact List.mem_singleton.mpr rfl), fun j hj a ha => ?_, fun j hj => asg_bind fun z => hj (by rw [z]; exact List.mem_singleton.mpr rfl), fun j hj => (by rw [List.mem_singleton.mp hj]; exact asg_bind_self hi), fun a ha => ⟨i, List.mem_singleton.mpr rfl, by rw [FsSet_self]; exact ha⟩, List.length_set, fun j hj => List.getElem?_set_ne (fun z => hj (by rw [z]; exact List.mem_singleton.mpr rfl)), fun b hb j hj => ?_⟩
  · cases bk with
    | ex k => exact R.putE hi hn rd bo
    | pr b => exact R.putP hi rd bo
  · rw [List.mem_singleton.mp hj, FsSet_self] at ha
    exact ha
  · subst hb
    have hne : i ≠ j := fun z => hj (by rw [z]; exact List.mem_singleton.mpr rfl)
    show (VL.putP E i b d)[j]? = E[j]?
    unfold VL.putP
    split <;> exact List.getElem?_set_ne hne
theorem vg_name {x : Str} {pos : Pos} (hN : X.N.Nodup) (hi : X.N[i]? = some x) (hx : Loc X.env.scope x) (hf : X.fn x = true ∨ X.env.scope.names.lookup x = some .local := by first | exact .inl rfl | exact .inr rfl | assumption) : VG G X (.Name x pos) bk [i] (gSet bk i) :=
  PG.imp (pg_name hN hi hx hf) fun v σ H Q ⟨C, E, Fs, H1, F, d, R, hn, rd, bo, E', e, q⟩ => by
    unfold gSet at e
    split at e
    · rename_i hl
      cases e
      obtain ⟨R', b'⟩ := R.bind hl hn rd bo
      exact q _ _ R' b'
    · cases e
def gsNil : List D → Env → Option Env
  | [], E => some E
  | _, _ => none
def gsCons (g : D → Env → Option Env) (gs : List D → Env → Option Env) : List D → Env → Option Env
  | d :: ds, E => match g d E with
    | some E' => gs ds E'
    | none => none
  | [], _ => none
theorem vgs_nil : VGs G X [] bk [] gsNil := PGs.imp pgs_nil fun vs σ H Q ⟨C, E, Fs, H1, F, ds, R, hn, rd, bo, E', e, q⟩ => by
  cases ds with
  | nil =>
    cases e
    exact ⟨(rdsL_nil.mp rd).1, q σ Fs R ⟨fun _ _ => rfl, fun i hi => (by cases hi), fun _ _ => Iff.rfl, fun i hi => (by cases hi), fun a ha => (by rw [(rdsL_nil.mp rd).2] at ha; cases ha), rfl, fun _ _ => rfl, fun _ _ _ _ => rfl⟩⟩
  | cons d ds => cases e
theorem BOkL.split {H1 : Hp} {A B : List Addr} (h : BOkL C H1 E Fs bk (A ++ B)) : BOkL C H1 E Fs bk A ∧ BOkL C H1 E Fs bk B := by
  have vw : ∀ {S}, Vw H1 E Fs S (A ++ B) → Vw H1 E Fs S A ∧ Vw H1 E Fs S B := fun z => ⟨fun a ha => z a (List.mem_append_left _ ha), fun a ha => z a (List.mem_append_right _ ha)⟩
  cases bk with
  | pr b => exact ⟨⟨fun a ha => h.1 a (List.mem_append_left _ ha), fun z a ha => h.2 z a (List.mem_append_left _ ha)⟩, ⟨fun a ha => h.1 a (List.mem_append_right _ ha), fun z a ha => h.2 z a (List.mem_append_right _ ha)⟩⟩
  | ex k =>
    cases k with
    | own =>
      obtain ⟨h1, h2⟩ := h
      rw [List.nodup_append] at h1
      exact ⟨⟨h1.1, (vw h2).1⟩, ⟨h1.2.1, (vw h2).2⟩⟩
    | sub i => exact ⟨⟨h.1, (List.sublist_append_left A B).trans h.2⟩, ⟨h.1, (List.sublist_append_right A B).trans h.2⟩⟩
    | ref i => exact ⟨⟨h.1, (List.sublist_append_left A B).trans h.2⟩, ⟨h.1, (List.sublist_append_right A B).trans h.2⟩⟩
    | top S => exact vw h
    | vw S => exact vw h
theorem BOkL.one {H1 : Hp} {A : List Addr} (h : BOkL C H1 E Fs bk A) : BOk σ C H1 E Fs bk.part d v A := by
  cases bk with
  | pr b => exact h
  | ex k => cases k <;> exact h
def BK.nxt (W : List Nat) : BK → BK
  | .ex (.top S) => .ex (.vw (S ++ W))
  | .ex (.vw S) => .ex (.vw (S ++ W))
  | bk => bk
def BK.clear (W : List Nat) (bk : BK) : Bool := bk.S.all fun i => !W.contains i
theorem BOkL.step {H1 : Hp} {W : List Nat} {A B : List Addr} {E' : Env} {σ' : L2.St} {bk' : BK} {Fs' : Nat → List Addr} (h : BOkL C H1 E Fs bk (A ++ B)) (s : BStp bk' W A σ σ' E E' Fs Fs') (hc : bk.clear W = true) : BOkL C H1 E' Fs' (bk.nxt W) B := by
  have hs : ∀ i ∈ bk.S, i ∉ W := fun i hi hm => by
    have := List.all_eq_true.mp hc i hi
    simp [hm] at this
  have lo : ∀ a, a ∉ A → Loose H1 E Fs a → Loose H1 E' Fs' a := fun a ha l => ⟨l.1, fun j hj hm => by
    by_cases hw : j ∈ W
    · exact ha (s.inW j hw a hm)
    · rw [s.fs j hw] at hm
      exact l.2 j ((s.asg j hw).mp hj) hm⟩
  have vw : ∀ {S}, (∀ i ∈ S, i ∉ W) → Vw H1 E Fs S (A ++ B) → Vw H1 E' Fs' (S ++ W) B := fun {S} hS z a ha => by
    rcases z a (List.mem_append_right _ ha) with ⟨i, hi, h1, h2⟩ | l
    · exact .inl ⟨i, List.mem_append_left _ hi, (s.asg i (hS i hi)).mpr h1, by rw [s.fs i (hS i hi)]; exact h2⟩
    · by_cases hA : a ∈ A
      · obtain ⟨j, hj, hm⟩ := s.cov a hA
        exact .inl ⟨j, List.mem_append_right _ hj, s.aw j hj, hm⟩
      · exact .inr (lo a hA l)
  cases bk with
  | pr b => exact ⟨fun a ha => h.1 a (List.mem_append_right _ ha), fun z a ha => h.2 z a (List.mem_append_right _ ha)⟩
  | ex k =>
    cases k with
    | own =>
      obtain ⟨h1, h2⟩ := h
      rw [List.nodup_append] at h1
      refine ⟨h1.2.1, fun a ha => .inr (lo a (fun z => h1.2.2 a z a ha rfl) ?_)⟩
      rcases h2 a (List.mem_append_right _ ha) with ⟨_, z, _⟩ | z
      · cases z
      · exact z
    | sub i =>
      have n := hs i (List.mem_singleton.mpr rfl)
      exact ⟨(s.asg i n).mpr h.1, by rw [s.fs i n]; exact (List.sublist_append_right A B).trans h.2⟩
    | ref i =>
      have n := hs i (List.mem_singleton.mpr rfl)
      exact ⟨(s.asg i n).mpr h.1, by rw [s.fs i n]; exact (List.sublist_append_right A B).trans h.2⟩
    | top S => exact vw hs h
    | vw S => exact vw hs h
theorem vgs_cons {e : Expr} {es : List Expr} {W W' : List Nat} {g : D → Env → Option Env} {gs : List D → Env → Option Env} (h1 : VG G X e bk.part W g) (h2 : VGs G X es (bk.nxt W) W' gs) (hc : bk.clear W = true := by rfl) (hd : (W.all fun j => !W'.contains j) = true := by rfl)
    (hs : (assignEach (e :: es) X.env).map (·.2) = assign e X.env :: (assignEach es X.env).map (·.2) := by rfl) : VGs G X (e :: es) bk (W ++ W') (gsCons g gs) :=
  PGs.imp (pgs_cons h1 h2 hs) fun vs σ H Q ⟨C, E, Fs, H1, F, ds, R, hn, rd, bo, E', e, q⟩ => by
    cases ds with
    | nil => cases e
    | cons d ds =>
      obtain ⟨x, r, A, B, rfl, rfl, r1, r2⟩ := rdsL_cons.mp rd
      have e : (match g d E with
        | some E' => gs ds E'
        | none => none) = some E' := e
      cases e1 : g d E with
      | none => rw [e1] at e; cases e
      | some E1 =>
        rw [e1] at e
        refine ⟨x, r, rfl, C, E, Fs, H1, A, d, R, hn, r1, bo.split.1.one, E1, e1, fun σ1 Fs1 R1 b1 => ⟨C, E1, Fs1, H1, B, ds, R1, hn, r2, bo.step b1 hc, E', e, fun σ2 Fs2 R2 b2 => q σ2 Fs2 R2 ?_⟩⟩
        refine ⟨fun i hi => ?_, fun i hi a ha => ?_, fun i hi => ?_, fun i hi => ?_, fun a ha => ?_, b2.len.trans b1.len, fun i hi => (b2.sg i fun z => hi (List.mem_append_right _ z)).trans (b1.sg i fun z => hi (List.mem_append_left _ z)), fun b hb i hi => ?_⟩
        · rw [b2.fs i fun z => hi (List.mem_append_right _ z)]
          exact b1.fs i fun z => hi (List.mem_append_left _ z)
        · by_cases h2 : i ∈ W'
          · exact List.mem_append_right _ (b2.inW i h2 a ha)
          · rw [b2.fs i h2] at ha
            rcases List.mem_append.mp hi with z | z
            · exact List.mem_append_left _ (b1.inW i z a ha)
            · exact absurd z h2
        · rw [b2.asg i fun z => hi (List.mem_append_right _ z)]
          exact b1.asg i fun z => hi (List.mem_append_left _ z)
        · by_cases h2 : i ∈ W'
          · exact b2.aw i h2
          · rw [b2.asg i h2]
            rcases List.mem_append.mp hi with z | z
            · exact b1.aw i z
            · exact absurd z h2
        · rcases List.mem_append.mp ha with z | z
          · obtain ⟨j, hj, hm⟩ := b1.cov a z
            by_cases h2 : j ∈ W'
            · have := List.all_eq_true.mp hd j hj
              simp [h2] at this
            · exact ⟨j, List.mem_append_left _ hj, by rw [b2.fs j h2]; exact hm⟩
          · obtain ⟨j, hj, hm⟩ := b2.cov a z
            exact ⟨j, List.mem_append_right _ hj, hm⟩
        · subst hb
          exact (b2.env b rfl i fun z => hi (List.mem_append_right _ z)).trans (b1.env b rfl i fun z => hi (List.mem_append_left _ z))
theorem BOk.l {H1 : Hp} (h : BOk σ C H1 E Fs bk d v F) : BOkL C H1 E Fs bk F := by
  cases bk with
  | pr b => exact h
  | ex k =>
    cases k with
    | own => exact h
    | sub i => exact h
    | ref i =>
      obtain ⟨m, e, _, rfl⟩ := h
      exact ⟨⟨m, d, e⟩, List.Sublist.refl _⟩
    | top S => exact h.1
    | vw S => exact h
def gTupE (n : Nat) (gs : List D → Env → Option Env) : D → Env → Option Env
  | .tup ds, E => if ds.length = n then gs ds E else none
  | _, _ => none
theorem vg_tup (x : XOk G X) {es : List Expr} {k n : Nat} {pos : Pos} {W : List Nat} {gs : List D → Env → Option Env} (h : VGs G X es bk W gs) (hn : (assignEach es X.env).length = n := by rfl) (hst : (assignEach es X.env).findIdx? (·.1) = none := by rfl) : VG G X (.Tuple es k pos) bk W (gTupE n gs) :=
  PG.imp (pg_tup x.calm h hn hst) fun v σ H Q ⟨C, E, Fs, H1, F, d, R, hn, rd, bo, E', e, q⟩ => by
    unfold gTupE at e
    split at e
    · rename_i ds
      split at e
      · rename_i hl
        obtain ⟨a, xs, rfl, h1, h2⟩ := rds_tup.mp rd
        rw [x.K]
        exact ⟨a, xs, rfl, h1, by rw [rdsL_len h2]; exact hl, C, E, Fs, H1, F, ds, R, hn, h2, bo.l, E', e, q⟩
      · cases e
    · cases e
def sAsg (f : EF) (g : D → Env → Option Env) : SF := fun E => match f E with
  | some (d, E') => (match g d E' with
    | some E2 => some (.nx E2)
    | none => none)
  | none => none
structure ItOk (G : Gb) (J : It) (ds : List D) (F : List Addr) (Hb : Hp) : Prop where
  go : ∀ H i, Chg (fun a => a ∉ F) Hb H → i < ds.length → J.go i H
  yl : ∀ H i x H', Chg (fun a => a ∉ F) Hb H → i < ds.length → J.yld i H x H' → Chg No H H' ∧ ∃ d A, ds[i]? = some d ∧ Rds G H' d x A ∧ ∀ a ∈ A, a ∈ F
  st : ∀ H i, Chg (fun a => a ∉ F) Hb H → ds.length ≤ i → J.stop i H
abbrev IF := Env → Option (List D × Env)
def tVI (G : Gb) (M : List Nat) (k : Kind) (f : IF) : TI := fun σ H R => ∃ C E Fs, Rel G C H σ E Fs ∧ ∃ ds E', f E = some (ds, E') ∧
  ∀ J H' Fs' F, Rel G C H' σ E' Fs' → Stp M H H' E E' Fs Fs' → ItOk G J ds F H' → (∀ a ∈ F, ∃ o, H' a = some o ∧ MutO o = true) → Vw H E' Fs' k.S F → R J H'
abbrev VI (G : Gb) (X : Cx) (tg iter : Expr) (M : List Nat) (k : Kind) (f : IF) : Prop := PI X tg iter (tVI G M k f)
theorem PI.imp {tg e : Expr} {t t' : TI} (h : PI X tg e t) (i : ∀ σ H Q, t' σ H Q → t σ H Q) : PI X tg e t' := ⟨fun pins s σ H Q I q => h.run pins s σ H Q I (i σ H Q q)⟩
def forL (g : D → Env → Option Env) (b : SF) : List D → Env → Option Out
  | [], E => some (.nx E)
  | d :: ds, E => match g d E with
    | none => none
    | some E1 => match b E1 with
      | some (.nx E2) => forL g b ds E2
      | some (.ct E2) => forL g b ds E2
      | some (.bk E2) => some (.nx E2)
      | some (.rt r E2) => some (.rt r E2)
      | none => none
def sFor (k : Kind) (f : IF) (g : Bool → D → Env → Option Env) (b : SF) : SF := fun E => match f E with
  | some (ds, E') => forL (g (newAll E' k.S)) b ds (freeze E' k.S)
  | none => none
theorem Rel.lock {H1 : Hp} {S : List Nat} (R : Rel G C H σ E Fs) (hn : ∀ a, H1 a = none → C.H0 a = none ∧ ¬ C.T a) (tr : ∀ a ∈ F, ∃ o, H a = some o ∧ MutO o = true) (vw : Vw H1 E Fs S F) : Rel G { C with T := fun a => C.T a ∨ a ∈ F, HT := H } H σ (VL.freeze E S) Fs := by
  have R1 := R.freeze (S := S)
  refine ⟨R1.len, R1.rd, fun i m d e hw => ?_, R1.nw, R1.fr, Chg.refl _ _, fun q hq => ?_, R1.tb, fun i d e => ?_⟩
  · obtain ⟨h1, h2, h3⟩ := R1.nd i m d e hw
    refine ⟨h1, fun a ha hT => ?_, h3⟩
    rcases hT with hT | hT
    · exact h2 a ha hT
    · obtain ⟨m0, e0, h4⟩ := freeze_get.2 m d e
      obtain ⟨h5, h6⟩ := h4 hw
      subst h5
      rcases vw a hT with ⟨s, hs, ⟨m3, d3, e3⟩, h7⟩ | h7
      · exact (R.nd i _ d e0 hw).2.2 s m3 d3 (fun z => h6 (by rw [← z]; exact hs)) e3 a ha h7
      · exact h7.2 i ⟨_, _, e0⟩ ha
  · rcases hq with hq | hq
    · obtain ⟨o, e, hm⟩ := R.pt q hq
      exact ⟨o, R.pr.keep e hm (fun z => z hq), hm⟩
    · exact tr q hq
  · obtain ⟨a, r, e1, e2, e3, e4, e5⟩ := R1.tp i d e
    refine ⟨a, r, e1, e2, e3, fun hT => ?_, e5⟩
    rcases hT with hT | hT
    · exact e4 hT
    · obtain ⟨e0, hS⟩ := freeze_tip e
      obtain ⟨a', r', f1, _, _, _, f5⟩ := R.tp i d e0
      rw [e1] at f1
      cases f1
      rcases vw a hT with ⟨s, hs, ⟨m3, d3, e7⟩, h7⟩ | h7
      · exact f5 s m3 d3 (fun z => hS (by rw [← z]; exact hs)) e7 h7
      · exact h7.2 i ⟨_, _, e0⟩ (by rw [e1]; exact List.mem_cons_self)
theorem Rel.unlock {Hb : Hp} {E0 : Env} {σ0 : L2.St} {Fs0 : Nat → List Addr} {T' : Addr → Prop} (R0 : Rel G C Hb σ0 E0 Fs0) (ht : ∀ a, C.T a → T' a) (R : Rel G { C with T := T', HT := Hb } H σ E Fs) : Rel G C H σ E Fs :=
  ⟨R.len, R.rd, fun i m d e hw => let ⟨h1, h2, h3⟩ := R.nd i m d e hw; ⟨h1, fun a ha hT => h2 a ha (ht a hT), h3⟩, R.nw, R.fr, (R0.pr.trans R.pr).mono fun q o e h => h.elim id fun z hT => z (ht q hT), R0.pt, R.tb, fun i d e => let ⟨a, r, e1, e2, e3, e4, e5⟩ := R.tp i d e; ⟨a, r, e1, e2, e3, fun z => e4 (ht a z), e5⟩⟩
end
end
end VL
set_option maxHeartbeats 4000000
namespace VL
noncomputable section
open PySem PySem.Spec PyProof.Rows L2
open GxR (TabB Tabbed)
variable [LamT]
section
variable {G : Gb} {X : Cx} {ro : Bool}
theorem pg_ex {tg : Expr} {W : List Nat} {g : Bool → D → Env → Option Env} (hg : ∀ b, VG G X tg (.pr b) W (g b)) : PG X tg (fun v σ H Q => ∃ b, tVG G (.pr b) W (g b) v σ H Q) :=
  ⟨fun pins s σ H v u Q I r ⟨b, q⟩ => (hg b).run pins s σ H v u Q I r q⟩
theorem new_of {C : Ctx} {H H1 : Hp} {σ : L2.St} {E : Env} {Fs : Nat → List Addr} {S : List Nat} {F : List Addr} (R : Rel G C H σ E Fs) (hn : ∀ a, H1 a = none → C.H0 a = none ∧ ¬ C.T a) (vw : Vw H1 E Fs S F) (h : newAll E S = true) : ∀ a ∈ F, C.H0 a = none := fun a ha => by
  rcases vw a ha with ⟨s, hs, ⟨m, d, e⟩, h3⟩ | h3
  · have z := List.all_eq_true.mp h s hs
    rw [e] at z
    exact (R.nw s m d e).1 z a h3
  · exact (hn a h3.1).1
theorem vs_for {tg iter : Expr} {body : List Stmt} {M W : List Nat} {k : Kind} {f : IF} {g : Bool → D → Env → Option Env} {b : SF} {pos : Pos} (x : XOk G X) (hp : PassesOwn (model X.prog X.w) X.A X.env X.xe) (hi : VI G X tg iter M k f) (hg : ∀ b, VG G X tg (.pr b) W (g b)) (hb : VSs G X ro body b)
    (hs : ∀ x, foldedSetIterable iter X.env x = pure x := by intro _; rfl) : VS G X ro (.For tg iter body [] pos) (sFor k f g b) := PS.imp (ps_for hp x.calm hi (pg_ex hg) hb hs) fun N σ H ⟨C, E, Fs, R, o, e, q⟩ => by
  unfold sFor at e
  split at e
  · rename_i ds E' e1
    refine ⟨C, E, Fs, R, ds, E', e1, fun J Hb Fs' F R' s' it tr vw => ?_⟩
    have R1 := R'.lock R.hn tr vw
    have nwF := new_of R' R.hn vw
    generalize newAll E' k.S = bb at e nwF
    have un : ∀ {σ2 H2 E2 Fs2}, Rel G { C with T := fun a => C.T a ∨ a ∈ F, HT := Hb } H2 σ2 E2 Fs2 → Rel G C H2 σ2 E2 Fs2 := fun r => R'.unlock (fun a ha => .inl ha) r
    refine ⟨fun i m σ2 H2 => m = ds.length - i ∧ i ≤ ds.length ∧ ∃ E2 Fs2, Rel G { C with T := fun a => C.T a ∨ a ∈ F, HT := Hb } H2 σ2 E2 Fs2 ∧ forL (g bb) b (ds.drop i) E2 = some o, ⟨ds.length, by simp, Nat.zero_le _, _, _, R1, e⟩, ?_⟩
    rintro i m σ2 H2 ⟨rfl, hi, E2, Fs2, R2, e2⟩
    have c2 : Chg (fun a => a ∉ F) Hb H2 := R2.pr.mono fun q o _ h hF => h (.inr hF)
    by_cases hlt : i < ds.length
    · refine .inr ⟨it.go H2 i c2 hlt, fun σ3 H3 => ∃ E3 Fs3, Rel G { C with T := fun a => C.T a ∨ a ∈ F, HT := Hb } H3 σ3 E3 Fs3 ∧ forL (g bb) b (ds.drop (i + 1)) E3 = some o, fun σ3 H3 h3 => ⟨ds.length - (i + 1), by omega, rfl, hlt, h3⟩, fun y H3 hy => ?_⟩
      obtain ⟨c3, d, A, ed, rd, hA⟩ := it.yl H2 i y H3 c2 hlt hy
      have ed' : ds.drop i = d :: ds.drop (i + 1) := by
        rw [List.drop_eq_getElem_cons hlt]
        rw [List.getElem?_eq_getElem hlt] at ed
        cases ed
        rfl
      rw [ed'] at e2
      unfold forL at e2
      have R3 := R2.chg c3
      cases e3 : g bb d E2 with
      | none => rw [e3] at e2; cases e2
      | some E3 =>
        rw [e3] at e2
        dsimp only at e2
        refine ⟨bb, _, E2, Fs2, H3, A, d, R3, R3.hn, rd, ⟨fun a ha => .inr (hA a ha), fun z a ha => nwF z a (hA a ha)⟩, E3, e3, fun σ4 Fs4 R4 _ => ?_⟩
        cases e4 : b E3 with
        | none => rw [e4] at e2; cases e2
        | some o1 =>
          rw [e4] at e2
          refine ⟨_, E3, Fs4, R4, o1, e4, ?_⟩
          cases o1 with
          | nx E5 => exact fun σ5 H5 Fs5 R5 => ⟨E5, Fs5, R5, e2⟩
          | ct E5 => exact fun σ5 H5 Fs5 R5 => ⟨E5, Fs5, R5, e2⟩
          | bk E5 =>
            cases e2
            exact fun σ5 H5 Fs5 R5 => q σ5 H5 Fs5 (un R5)
          | rt r E5 =>
            cases e2
            exact fun v σ5 H5 Fs5 F5 R5 r5 k5 => q v σ5 H5 Fs5 F5 (un R5) r5 k5
    · have ei : ds.drop i = [] := List.drop_eq_nil_of_le (by omega)
      rw [ei] at e2
      cases e2
      exact .inl ⟨it.st H2 i c2 (by omega), q σ2 H2 Fs2 (un R2)⟩
  · cases e
end
end
end VL
set_option maxHeartbeats 4000000
namespace VL
noncomputable section
open PySem PySem.Spec PyProof.Rows L2
open GxR (TabB Tabbed)
variable [LamT]
section
variable {G : Gb} {X : Cx} {tg e : Expr} {M M' : List Nat} {k k' : Kind} {f g : EF}
theorem PI.or {t t' : TI} (h : PI X tg e t) (h' : PI X tg e t') : PI X tg e (fun σ H R => t σ H R ∨ t' σ H R) := ⟨fun pins s σ H R I q => q.elim (h.run pins s σ H R I) (h'.run pins s σ H R I)⟩
theorem PE.or {t t' : TE} (h : PE X e t) (h' : PE X e t') : PE X e (fun σ H Q => t σ H Q ∨ t' σ H Q) := ⟨fun pins s σ H R I q => q.elim (h.run pins s σ H R I) (h'.run pins s σ H R I)⟩
theorem seq_stays {H H' : Hp} {d : D} {ds : List D} {v : V} {F : List Addr} (e : d.items = some ds) (r : Rds G H d v F) : ∃ a, v = .ref a ∧
    ((∀ es, d ≠ .tup es) → ∀ H', Chg (fun a => a ∉ F) H H' → ∃ us A, SqL G.K H' a us ∧ RdsL G H' ds us A ∧ A.Sublist F) ∧
    ((∃ es, d = .tup es) → ∀ H', Chg (fun a => a ∉ F) H H' → ∃ us A, SqT G.K H' a us ∧ RdsL G H' ds us A ∧ A.Sublist F) := by
  cases d <;> unfold D.items at e <;> first | cases e | skip
  · obtain ⟨a, us, rfl, h3, h4⟩ := rds_tup.mp r
    exact ⟨a, rfl, fun z => absurd rfl (z _), fun _ H' c => ⟨us, F, SqT.chg c h3, RdsL.chg c _ _ _ (fun a ha z => z ha) h4, List.Sublist.refl _⟩⟩
  · obtain ⟨a, us, A, rfl, h3, h4, rfl⟩ := rds_lst.mp r
    refine ⟨a, rfl, fun _ H' c => ⟨us, A, SqL.of (c.keep h3 rfl fun z => z List.mem_cons_self), RdsL.chg c _ _ _ (fun a ha z => z (List.mem_cons_of_mem _ ha)) h4, List.sublist_cons_self ..⟩, fun ⟨es, z⟩ => by cases z⟩
  · obtain ⟨a, rfl, h3, rfl⟩ := rds_scr.mp r
    exact ⟨a, rfl, fun _ H' c => ⟨_, [], (ScrAt.chg c h3).sql, rdsL_mk_ints _, List.Sublist.refl _⟩, fun ⟨es, z⟩ => by cases z⟩
theorem itOk_list {Hb : Hp} {a : Addr} {ds : List D} {F : List Addr} (h : ∀ H', Chg (fun a => a ∉ F) Hb H' → ∃ us A, SqL G.K H' a us ∧ RdsL G H' ds us A ∧ A.Sublist F) : ItOk G (Itl G.K a) ds F Hb where
  go := fun H i c hi => by
    obtain ⟨us, A, h1, h2, h3⟩ := h H c
    have hl := rdsL_len h2
    exact ⟨us, us[i], h1, List.getElem?_eq_getElem (by omega)⟩
  yl := fun H i x H' c hi ⟨e, hy⟩ => by
    subst e
    obtain ⟨us, A, h1, h2, h3⟩ := h H' c
    obtain ⟨y, B, h4, h5, h6⟩ := rdsL_get h2 (List.getElem?_eq_getElem hi)
    have e := hy us h1
    rw [h4] at e
    cases e
    exact ⟨Chg.refl _ _, _, B, List.getElem?_eq_getElem hi, h5, fun z hz => h3.subset (h6.subset hz)⟩
  st := fun H i c hi => by
    obtain ⟨us, A, h1, h2, h3⟩ := h H c
    exact ⟨us, h1, by rw [rdsL_len h2]; exact hi⟩
theorem itOk_tup {Hb : Hp} {a : Addr} {ds : List D} {F : List Addr} (h : ∀ H', Chg (fun a => a ∉ F) Hb H' → ∃ us A, SqT G.K H' a us ∧ RdsL G H' ds us A ∧ A.Sublist F) : ItOk G (Itt G.K a) ds F Hb where
  go := fun H i c hi => by
    obtain ⟨us, A, h1, h2, h3⟩ := h H c
    have hl := rdsL_len h2
    exact ⟨us, us[i], h1, List.getElem?_eq_getElem (by omega)⟩
  yl := fun H i x H' c hi ⟨e, hy⟩ => by
    subst e
    obtain ⟨us, A, h1, h2, h3⟩ := h H' c
    obtain ⟨y, B, h4, h5, h6⟩ := rdsL_get h2 (List.getElem?_eq_getElem hi)
    have e := hy us h1
    rw [h4] at e
    cases e
    exact ⟨Chg.refl _ _, _, B, List.getElem?_eq_getElem hi, h5, fun z hz => h3.subset (h6.subset hz)⟩
  st := fun H i c hi => by
    obtain ⟨us, A, h1, h2, h3⟩ := h H c
    exact ⟨us, h1, by rw [rdsL_len h2]; exact hi⟩
def iSeq (f : EF) : IF := fun E => match f E with
  | some (d, E') => (match d.items with
    | some ds => some (ds, E')
    | none => none)
  | none => none
theorem vi_seq (x : XOk G X) (he : VE G X e M k f) : VI G X tg e M k (iSeq f) := PI.imp (PI.or (pi_list he) (pi_tup he)) fun σ H R ⟨C, E, Fs, Rl, ds, E', e, q⟩ => by
  unfold iSeq at e
  split at e
  · rename_i d E1 e1
    split at e
    · rename_i ds' e2
      cases e
      rw [x.K]
      by_cases ht : ∃ es, d = .tup es
      · refine .inr ⟨C, E, Fs, Rl, d, E', e1, fun v H1 Fs1 F R1 s1 r1 k1 => ?_⟩
        obtain ⟨a, rfl, _, h2⟩ := seq_stays (H' := H1) e2 r1
        have h2 := h2 ht
        obtain ⟨us, A, h3, _⟩ := h2 H1 (Chg.refl _ _)
        exact ⟨a, rfl, ⟨us, h3⟩, q _ _ _ F R1 s1 (itOk_tup h2) (fun a ha => Rds.trk _ _ _ r1 a ha) k1.vw⟩
      · refine .inl ⟨C, E, Fs, Rl, d, E', e1, fun v H1 Fs1 F R1 s1 r1 k1 => ?_⟩
        obtain ⟨a, rfl, h2, _⟩ := seq_stays (H' := H1) e2 r1
        have h2 := h2 fun es z => ht ⟨es, z⟩
        obtain ⟨us, A, h3, _⟩ := h2 H1 (Chg.refl _ _)
        exact ⟨a, rfl, ⟨us, h3⟩, q _ _ _ F R1 s1 (itOk_list h2) (fun a ha => Rds.trk _ _ _ r1 a ha) k1.vw⟩
    · cases e
  · cases e
theorem itOk_range {Hb : Hp} (lo : Int) (n : Nat) : ItOk G (Itr lo n) ((List.range n).map fun (i : Nat) => D.int (lo + (i : Int))) [] Hb where
  go := fun H i c hi => show i < n by simpa using hi
  yl := fun H i x H' c hi ⟨e, hy⟩ => by
    subst e hy
    have hn : i < n := by simpa using hi
    refine ⟨Chg.refl _ _, D.int (lo + (i : Int)), [], ?_, hInt _ _ _, fun a ha => by cases ha⟩
    rw [List.getElem?_map, List.getElem?_range hn]
    rfl
  st := fun H i c hi => show n ≤ i by simpa using hi
def iRg (r : RF) : IF := fun E => match r E with
  | some (a, b, E') => if rgOk a b then some ((rgI a b).map .int, E') else none
  | none => none
theorem rgI_map (a b : Int) : (rgI a b).map D.int = (List.range (b - a).toNat).map fun (i : Nat) => D.int (a + (i : Int)) := by
  unfold rgI
  rw [List.map_map]
  rfl
theorem rgOk_of {a b : Int} (h : rgOk a b = true) : -(2 ^ 62) ≤ a ∧ a < 2 ^ 62 ∧ -(2 ^ 62) ≤ b ∧ b < 2 ^ 62 := by
  obtain ⟨h1, h2, h3, h4, _⟩ := sl_iff.mp h
  exact ⟨h1, h2, h3, h4⟩
theorem vi_range2 {a b : Expr} {p pos : Pos} (hg : Gl X "range") (hm : X.mg "range" = none) (ha : VE G X a M k f) (hb : VE G X b M' k' g) (sf : k.safe M' = true := by rfl) (hs : starEach [a, b] X.env = [(false, eval a X.env), (false, eval b X.env)] := by rfl) (hs2 : starEach [b] X.env = [(false, eval b X.env)] := by rfl) :
    VI G X tg (.Call (.Name "range" p) [a, b] [] pos) (M ++ M') .own (iRg (rg2 f g)) :=
  PI.imp (pi_range2 hg hm (vl_cons ha (vl_cons hb vl_nil (safe_nil k') (by rw [hs2]; rfl)) (by rw [List.append_nil]; exact sf) (by rw [hs, hs2])) hs hs2) fun σ H R ⟨C, E, Fs, Rl, ds, E', e, q⟩ => by
    unfold iRg at e
    split at e
    · rename_i a' b' E1 e1
      split at e
      · rename_i hr
        cases e
        unfold rg2 at e1
        split at e1
        · rename_i i j E2 e2
          cases e1
          refine ⟨C, E, Fs, Rl, _, E', e2, fun vs H1 Fs1 FF R1 s1 a1 => ?_⟩
          obtain ⟨y, z, A, B, rfl, _, h1, h2⟩ := rdsL2 a1.rds
          obtain ⟨rfl, _⟩ := rds_int.mp h1
          obtain ⟨rfl, _⟩ := rds_int.mp h2
          refine ⟨a', b', rfl, rgOk_of hr, q _ _ _ [] R1 (s1.mono fun i hi => by simpa using hi) ?_ (fun a ha => by cases ha) (fun a ha => by cases ha)⟩
          rw [rgI_map]
          exact itOk_range a' (b' - a').toNat
        · cases e1
      · cases e
    · cases e
def enumD (i : Nat) : List D → List D
  | [] => []
  | d :: ds => .tup [.int (i : Int), d] :: enumD (i + 1) ds
def iEnm (f : EF) : IF := fun E => match f E with
  | some (d, E') => (match d.items with
    | some ds => some (enumD 0 ds, E')
    | none => none)
  | none => none
end
end
end VL
set_option maxHeartbeats 4000000
namespace VL
noncomputable section
open PySem PySem.Spec PyProof.Rows L2
open GxR (TabB Tabbed)
variable [LamT]
abbrev FD := List D → Option (D × List D)
structure ArgIn (G : Gb) (H : Hp) (J : List Nat) (ds : List D) (vs : List V) (FA : Nat → List Addr) : Prop where
  len : vs.length = ds.length
  rd : ∀ j d, ds[j]? = some d → ∃ v, vs[j]? = some v ∧ Rds G H d v (FA j)
  io : ∀ j ∈ J, j < ds.length → (FA j).Nodup ∧ ∀ i, i ≠ j → i < ds.length → ∀ a ∈ FA j, a ∉ FA i
structure ArgOut (G : Gb) (H H' : Hp) (J : List Nat) (ds' : List D) (vs : List V) (FA FA' : Nat → List Addr) (A : List Addr) : Prop where
  rd : ∀ (x : Nat) (j : Nat), J[x]? = some j → ∃ d v, ds'[x]? = some d ∧ vs[j]? = some v ∧ Rds G H' d v (FA' j) ∧ (FA' j).Nodup ∧ (∀ a ∈ FA' j, a ∈ FA j ∨ H a = none) ∧ (∀ a ∈ A, a ∉ FA' j) ∧ ∀ i ∈ J, i ≠ j → ∀ a ∈ FA' j, a ∉ FA' i
def spV (G : Gb) (J : List Nat) (ro : Bool) (n : Nat) (F : FD) : Sp := fun vs H Q _ => ∃ ds FA, vs.length = n ∧ ArgIn G H J ds vs FA ∧ (∀ T ∈ G.tabs, TabG H T) ∧ ∃ d ds', F ds = some (d, ds') ∧
  ∀ v H' A FA', Rds G H' d v A → (ro = true → A.Nodup) → (∀ a ∈ A, H a = none) → ArgOut G H H' J ds' vs FA FA' A → Chg (fun q => ∃ j ∈ J, q ∈ FA j) H H' → Q v H'
def startE (N : Nat) (J : List Nat) (ds : List D) : Env := (ds.mapIdx fun j d => some (if J.contains j then Mode.io else Mode.arg, d)) ++ List.replicate (N - ds.length) none
def ioGet (E : Env) (j : Nat) : Option D := match E[j]? with
  | some (some (.io, d)) => some d
  | _ => none
def ioOut (E : Env) : List Nat → Option (List D)
  | [] => some []
  | j :: J => match ioGet E j, ioOut E J with
    | some d, some ds => some (d :: ds)
    | _, _ => none
def callD (S : SF) (N : Nat) (J : List Nat) : FD := fun ds => match S (startE N J ds) with
  | some (.rt d E) => (match ioOut E J with
    | some ds' => some (d, ds')
    | none => none)
  | some (.nx E) => (match ioOut E J with
    | some ds' => some (.non, ds')
    | none => none)
  | _ => none
theorem ioGet_some {E : Env} {j : Nat} {d : D} (h : ioGet E j = some d) : E[j]? = some (some (.io, d)) := by
  unfold ioGet at h
  split at h
  · rename_i d' e
    cases h
    exact e
  · cases h
theorem ioOut_get {E : Env} : ∀ {J : List Nat} {ds : List D} {x j : Nat}, ioOut E J = some ds → J[x]? = some j → ∃ d, ds[x]? = some d ∧ E[j]? = some (some (.io, d))
  | [], _, x, j, _, e => by simp at e
  | j' :: J, ds, x, j, h, e => by
    unfold ioOut at h
    split at h
    · rename_i d ds' h1 h2
      cases h
      cases x with
      | zero =>
        simp at e
        subst e
        exact ⟨d, rfl, ioGet_some h1⟩
      | succ x =>
        obtain ⟨d', h3, h4⟩ := ioOut_get h2 (show J[x]? = some j by simpa using e)
        exact ⟨d', by simpa using h3, h4⟩
    · cases h
theorem startE_len {N : Nat} {J : List Nat} {ds : List D} (h : ds.length ≤ N) : (startE N J ds).length = N := by
  unfold startE
  rw [List.length_append, List.length_mapIdx, List.length_replicate]
  omega
theorem startE_get {N : Nat} {J : List Nat} {ds : List D} {i : Nat} {m : Mode} {d : D} (e : (startE N J ds)[i]? = some (some (m, d))) : ds[i]? = some d ∧ ((m = .io ∧ i ∈ J) ∨ m = .arg) := by
  unfold startE at e
  by_cases hi : i < ds.length
  · rw [List.getElem?_append_left (by rw [List.length_mapIdx]; exact hi), List.getElem?_mapIdx, List.getElem?_eq_getElem hi] at e
    simp only [Option.map_some, Option.some.injEq, Prod.mk.injEq] at e
    obtain ⟨e1, e2⟩ := e
    refine ⟨by rw [← e2]; exact List.getElem?_eq_getElem hi, ?_⟩
    by_cases hJ : J.contains i = true
    · rw [if_pos hJ] at e1
      exact .inl ⟨e1.symm, by simpa using hJ⟩
    · rw [if_neg hJ] at e1
      exact .inr e1.symm
  · rw [List.getElem?_append_right (by rw [List.length_mapIdx]; omega), List.getElem?_replicate] at e
    split at e
    · cases e
    · cases e
section
variable {P : Program} {w : World} {G : Gb} {mg : Str → Option Value} {b0 : Heap}
theorem post_call {J : List Nat} {ro : Bool} {n : Nat} {S : SF} {N : List Str} {vs : List V} {H : Hp} {Q : VK} {E : XK} (hn : n ≤ N.length) (hJ : J.all (fun j => decide (j < n)) = true) (h : spV G J ro n (callD S N.length J) vs H Q E) :
    tVS G ro S { nx := fun _ H' => Q .non H', rt := Q } (start N vs) H := by
  obtain ⟨ds, FA, hl, ai, tb, d, ds', eF, q⟩ := h
  have hds : ds.length = n := by rw [← ai.len]; exact hl
  have jn : ∀ j ∈ J, j < ds.length := fun j hj => by
    have := of_decide_eq_true (List.all_eq_true.mp hJ j hj)
    omega
  let C : Ctx := ⟨H, fun i a => i ∈ J ∧ a ∈ FA i, fun _ => False, H, fun j => (vs[j]?).getD .non⟩
  have R : Rel G C H (start N vs) (startE N.length J ds) FA := by
    refine ⟨?_, fun i m d' e => ?_, fun i m d' e hw => ?_, fun i m d' e => ?_, Chg.refl _ _, Chg.refl _ _, fun q z => z.elim, tb, fun i d' e => by
      obtain ⟨_, h2⟩ := startE_get e
      rcases h2 with ⟨z, _⟩ | z <;> cases z⟩
    · rw [startE_len (by omega)]
      unfold L2.start
      rw [List.length_append, List.length_map, List.length_replicate, hl]
      omega
    · obtain ⟨h1, h2⟩ := startE_get e
      obtain ⟨v, h3, h4⟩ := ai.rd i d' h1
      refine ⟨v, ?_, h4, fun _ => ?_⟩
      · unfold L2.start
        rw [List.getElem?_append_left (by rw [List.length_map]; exact (List.getElem?_eq_some_iff.mp h3).1), List.getElem?_map, h3]
        rfl
      · show v = (vs[i]?).getD .non
        rw [h3]
        rfl
    · obtain ⟨h1, h2⟩ := startE_get e
      rcases h2 with ⟨rfl, h2⟩ | rfl
      · obtain ⟨h3, h4⟩ := ai.io i h2 (jn i h2)
        refine ⟨h3, fun a _ z => z, fun j m' d2 hj e2 => h4 j hj ?_⟩
        exact (List.getElem?_eq_some_iff.mp (startE_get e2).1).1
      · cases hw
    · obtain ⟨h1, h2⟩ := startE_get e
      rcases h2 with ⟨rfl, h2⟩ | rfl
      · exact ⟨fun z => (by cases z), fun _ a ha => .inl ⟨h2, ha⟩⟩
      · exact ⟨fun z => (by cases z), fun z => (by cases z)⟩
  have fin : ∀ {v : V} {σ' : L2.St} {H' : Hp} {E' : Env} {Fs : Nat → List Addr} {F' : List Addr} {d2 : D}, ioOut E' J = some ds' → d2 = d → Rel G C H' σ' E' Fs → Rds G H' d2 v F' → RetOk ro C E' Fs F' → Q v H' := fun {v σ' H' E' Fs F' d2} eo ed R' rd ret => by
    subst ed
    refine q v H' F' Fs rd ret.1 (fun a ha => (ret.2 a ha).1) ⟨fun x j hj => ?_⟩ (R'.fr.mono fun q o e ⟨i, hi, ha⟩ => ⟨i, hi, ha⟩)
    have hj' : j ∈ J := List.mem_of_getElem? hj
    obtain ⟨d3, h1, h2⟩ := ioOut_get eo hj
    obtain ⟨v3, h3, h4, h5⟩ := R'.rd j _ _ h2
    obtain ⟨h6, h7, h8⟩ := R'.nd j _ _ h2 rfl
    have hjl : j < vs.length := by rw [ai.len]; exact jn j hj'
    refine ⟨d3, v3, h1, ?_, h4, h6, fun a ha => ?_, fun a ha => (ret.2 a ha).2 j _ h2, fun i hi hij => ?_⟩
    · rw [h5 rfl]
      show vs[j]? = some ((vs[j]?).getD .non)
      rw [List.getElem?_eq_getElem hjl]
      rfl
    · rcases (R'.nw j _ _ h2).2 rfl a ha with z | z
      · exact .inl z.2
      · exact .inr z
    · obtain ⟨x', hx', ex⟩ := List.mem_iff_getElem.mp hi
      obtain ⟨d4, _, h9⟩ := ioOut_get eo (show J[x']? = some i by rw [← ex]; exact List.getElem?_eq_getElem hx')
      exact h8 i _ _ hij h9
  unfold callD at eF
  split at eF
  · rename_i d1 E1 e1
    split at eF
    · rename_i ds1 e2
      cases eF
      exact ⟨C, _, FA, R, _, e1, fun v σ' H' Fs F' R' rd ret => fin e2 rfl R' rd ret⟩
    · cases eF
  · rename_i E1 e1
    split at eF
    · rename_i ds1 e2
      cases eF
      exact ⟨C, _, FA, R, _, e1, fun σ' H' Fs R' => fin e2 rfl R' (rds_non.mpr ⟨rfl, rfl⟩) ⟨fun _ => List.nodup_nil, fun a ha => by cases ha⟩⟩
    · cases eF
  · cases eF
theorem spV_len {J : List Nat} {ro : Bool} {n : Nat} {F : FD} : ∀ vs H Q E, spV G J ro n F vs H Q E → vs.length = n := fun vs H Q E ⟨_, _, h, _⟩ => h
theorem fnV {x qu : Str} {st : Stmt} {f : Addr} {fd : FuncData} {N ps : List Str} {k : Nat} {J : List Nat} {ro : Bool} {S : SF} (F : Fun G.K x qu st f fd) (Sc : FnScope N ps (defScope st)) (hn : ps.length ≤ N.length) (hJ : J.all (fun j => decide (j < ps.length)) = true)
    (hb : ∀ (cd : Value) (B : Around) (ou : List PySem.Env) (s : Shared) (H : Hp) (E : XK), XOk G (cxOf CX0 P w G.K mg b0 N qu (defScope st) f cd B ou s H E).nox → (B.deeper (envOfC qu (defScope st) s.heap.objs.size f cd)).guards = some [] → Room k (B.deeper (envOfC qu (defScope st) s.heap.objs.size f cd)) →
      VSs G (cxOf CX0 P w G.K mg b0 N qu (defScope st) f cd B ou s H E).nox ro (defBody st) S) :
    TA.FnG P w G.K mg b0 CX0 (k + 1) f fd ps (spV G J ro ps.length (callD S N.length J)) :=
  TA.FunG.ok F Sc spV_len fun cd B ou s H vs Q E hg hr h => ⟨_, hb cd B ou s H E ⟨rfl, rfl, show (B.deeper (envOfC qu (defScope st) s.heap.objs.size f cd)).units + 70 < cLine by have := hr.un; omega⟩ hg hr, post_call hn hJ h⟩
end
def setD (E : Env) (i : Nat) (d : D) : Env := match E[i]? with
  | some (some (m, _)) => E.set i (some (m, d))
  | _ => E
def setIO (E : Env) : List Nat → List D → Env
  | i :: IO, d :: ds => setIO (setD E i d) IO ds
  | _, _ => E
def ioW (E : Env) (IO : List Nat) : Bool := IO.all fun i => match E[i]? with
  | some (some (m, _)) => m.w
  | _ => false
def eCall (F : FD) (IO : List Nat) (l : LF) : EF := fun E => match l E with
  | some (ds, E') => if ioW E' IO then (match F ds with
    | some (d, ds') => if ds'.length = IO.length then some (d, setIO E' IO ds') else none
    | none => none) else none
  | none => none
theorem setD_get_ne {E : Env} {i j : Nat} {d : D} (h : j ≠ i) : (setD E i d)[j]? = E[j]? := by
  unfold setD
  split
  · rw [List.getElem?_set_ne (Ne.symm h)]
  · rfl
theorem setD_get {E : Env} {i : Nat} {m : Mode} {d d' : D} (h : E[i]? = some (some (m, d))) : (setD E i d')[i]? = some (some (m, d')) := by
  unfold setD
  rw [h]
  exact List.getElem?_set_self (List.getElem?_eq_some_iff.mp h).1
theorem setD_len {E : Env} {i : Nat} {d : D} : (setD E i d).length = E.length := by
  unfold setD
  split
  · rw [List.length_set]
  · rfl
theorem setIO_len : ∀ {IO : List Nat} {ds : List D} {E : Env}, (setIO E IO ds).length = E.length
  | [], _, _ => rfl
  | _ :: _, [], _ => rfl
  | i :: IO, d :: ds, E => by rw [setIO, setIO_len, setD_len]
theorem setIO_out : ∀ {IO : List Nat} {ds : List D} {E : Env} {j : Nat}, j ∉ IO → (setIO E IO ds)[j]? = E[j]?
  | [], _, _, _, _ => rfl
  | _ :: _, [], _, _, _ => rfl
  | i :: IO, d :: ds, E, j, h => by
    rw [setIO, setIO_out fun z => h (List.mem_cons_of_mem _ z), setD_get_ne fun z => h (by rw [z]; exact List.mem_cons_self)]
theorem setIO_in : ∀ {IO : List Nat} {ds : List D} {E : Env} {x i : Nat} {m : Mode} {d d' : D}, IO.Nodup → IO[x]? = some i → ds[x]? = some d' → E[i]? = some (some (m, d)) → (setIO E IO ds)[i]? = some (some (m, d'))
  | [], _, _, x, i, _, _, _, _, e, _, _ => by simp at e
  | _ :: _, [], _, x, i, _, _, _, _, _, e, _ => by simp at e
  | j :: IO, d0 :: ds, E, x, i, m, d, d', nd, e1, e2, e3 => by
    rw [List.nodup_cons] at nd
    rw [setIO]
    cases x with
    | zero =>
      simp at e1 e2
      subst e1 e2
      rw [setIO_out nd.1]
      exact setD_get e3
    | succ x =>
      have hi : i ∈ IO := List.mem_of_getElem? (show IO[x]? = some i by simpa using e1)
      exact setIO_in nd.2 (by simpa using e1) (by simpa using e2) (by rw [setD_get_ne fun z => nd.1 (by rw [← z]; exact hi)]; exact e3)
def ioKinds (ks : List Kind) (J IO : List Nat) : Bool := (J.length == IO.length) && decide IO.Nodup && decide J.Nodup && ((J.zip IO).all fun p => decide (ks[p.1]? = some (Kind.ref p.2))) &&
  (ks.zipIdx.all fun p => J.contains p.2 || p.1.safe IO)
section
variable {G : Gb} {X : Cx} {k : Nat} {f : Addr} {fd : FuncData} {ps : List Str} {J IO : List Nat} {ro : Bool} {F : FD} {x : Str} {p pos : Pos} {e : Expr} {es : List Expr} {M : List Nat} {ks : List Kind} {l : LF}
theorem ArgsOk.all {σ : L2.St} {H H' : Hp} {E : Env} {Fs : Nat → List Addr} : ∀ {ks : List Kind} {ds : List D} {vs : List V} {FF : List (List Addr)}, ArgsOk G σ H H' E Fs ks ds vs FF → ds.length = ks.length ∧ vs.length = ks.length ∧ FF.length = ks.length ∧
    ∀ (j : Nat) (k : Kind), ks[j]? = some k → ∃ d v F, ds[j]? = some d ∧ vs[j]? = some v ∧ FF[j]? = some F ∧ Rds G H' d v F ∧ KOk σ H E Fs k d v F
  | [], _, _, _, h => by
    obtain ⟨rfl, rfl, rfl⟩ := h
    exact ⟨rfl, rfl, rfl, fun j k e => by simp at e⟩
  | k :: ks, _, _, _, h => by
    obtain ⟨d, ds', v, vs', F, FF', rfl, rfl, rfl, h4, h5, h6, h7⟩ := h
    obtain ⟨l1, l2, l3, h8⟩ := h7.all
    refine ⟨by simp [l1], by simp [l2], by simp [l3], fun j k' e => ?_⟩
    cases j with
    | zero =>
      simp at e
      subst e
      exact ⟨d, v, F, rfl, rfl, rfl, h4, h5⟩
    | succ j => simpa using h8 j k' (by simpa using e)
def kRet (ro : Bool) : Kind := if ro then .own else .vw []
theorem call_of {σ : L2.St} {H : Hp} {Q : VK} {E : XK} (hk : ioKinds ks J IO = true) (hn : ks.length = ps.length) (h : tV G (M ++ IO) (kRet ro) (eCall F IO l) σ H Q) : tVL G M ks l σ H fun vs H1 => spV G J ro ps.length F vs H1 Q E := by
  obtain ⟨C, E0, Fs, R, d, E', e, q⟩ := h
  unfold eCall at e
  split at e
  · rename_i ds E1 e1
    split at e
    · rename_i hw
      split at e
      · rename_i d' ds' eF
        split at e
        · rename_i hlen
          cases e
          refine ⟨C, E0, Fs, R, ds, E1, e1, fun vs H1 Fs1 FF R1 s1 a1 => ?_⟩
          unfold ioKinds at hk
          simp only [Bool.and_eq_true, beq_iff_eq, decide_eq_true_eq] at hk
          obtain ⟨⟨⟨⟨lJ, ndI⟩, ndJ⟩, hio⟩, hsf⟩ := hk
          obtain ⟨l1, l2, l3, all⟩ := a1.all
          have tr1 : ∀ {i m d a}, E1[i]? = some (some (m, d)) → a ∈ Fs1 i → ∃ o, H1 a = some o := fun {i m d a} e ha => by
            obtain ⟨v, _, r, _⟩ := R1.rd i m d e
            obtain ⟨o, eo, _⟩ := Rds.trk d v _ r a ha
            exact ⟨o, eo⟩
          have pos_ : ∀ {y j i : Nat}, J[y]? = some j → IO[y]? = some i → ks[j]? = some (Kind.ref i) := fun {y j i} e1 e2 => by
            have hm : (j, i) ∈ J.zip IO := List.mem_of_getElem? (i := y) (by rw [List.getElem?_zip_eq_some]; exact ⟨e1, e2⟩)
            exact of_decide_eq_true (List.all_eq_true.mp hio (j, i) hm)
          have key0 : ∀ {y j i : Nat}, J[y]? = some j → IO[y]? = some i → ∃ m dd v, E1[i]? = some (some (m, dd)) ∧ m.w = true ∧ σ[i]? = some (some v) ∧ vs[j]? = some v ∧ FF[j]? = some (Fs1 i) := fun {y j i} e1 e2 => by
            obtain ⟨dd, v, F', h1, h2, h3, h4, m, h5, h6, h7⟩ := all j _ (pos_ e1 e2)
            subst h7
            have hw' := List.all_eq_true.mp hw i (List.mem_of_getElem? e2)
            rw [h5] at hw'
            exact ⟨m, dd, v, h5, hw', h6, h2, h3⟩
          have ofJ : ∀ {j}, j ∈ J → ∃ y i, J[y]? = some j ∧ IO[y]? = some i := fun {j} hj => by
            obtain ⟨y, hy, ey⟩ := List.mem_iff_getElem.mp hj
            exact ⟨y, IO[y]'(by omega), by rw [← ey]; exact List.getElem?_eq_getElem hy, List.getElem?_eq_getElem _⟩
          have ofI : ∀ {i}, i ∈ IO → ∃ y j, J[y]? = some j ∧ IO[y]? = some i := fun {i} hi => by
            obtain ⟨y, hy, ey⟩ := List.mem_iff_getElem.mp hi
            exact ⟨y, J[y]'(by omega), List.getElem?_eq_getElem _, by rw [← ey]; exact List.getElem?_eq_getElem hy⟩
          have inj : ∀ {y y' : Nat} {j : Nat}, J[y]? = some j → J[y']? = some j → y = y' := fun {y y' j} e1 e2 => by
            obtain ⟨h1, e1⟩ := List.getElem?_eq_some_iff.mp e1
            obtain ⟨h2, e2⟩ := List.getElem?_eq_some_iff.mp e2
            exact (List.getElem_inj ndJ).mp (e1.trans e2.symm)
          have injI : ∀ {y y' : Nat} {j : Nat}, IO[y]? = some j → IO[y']? = some j → y = y' := fun {y y' j} e1 e2 => by
            obtain ⟨h1, e1⟩ := List.getElem?_eq_some_iff.mp e1
            obtain ⟨h2, e2⟩ := List.getElem?_eq_some_iff.mp e2
            exact (List.getElem_inj ndI).mp (e1.trans e2.symm)
          have fa : ∀ {j : Nat} {F' : List Addr}, FF[j]? = some F' → (FF[j]?).getD [] = F' := fun {j F'} e => by rw [e]; rfl
          refine ⟨ds, fun j => (FF[j]?).getD [], by rw [l2]; exact hn, ⟨by rw [l2, l1], fun j dj ej => ?_, fun j hj hjl => ?_⟩, R1.tb, d, ds', eF, fun v H3 A FA' rA ndA nwA ao c3 => ?_⟩
          · have hj : j < ks.length := by rw [← l1]; exact (List.getElem?_eq_some_iff.mp ej).1
            obtain ⟨dd, v, F', h1, h2, h3, h4, _⟩ := all j _ (List.getElem?_eq_getElem hj)
            rw [ej] at h1
            cases h1
            exact ⟨v, h2, by rw [fa h3]; exact h4⟩
          · obtain ⟨y, i, ey, ei⟩ := ofJ hj
            obtain ⟨m, dd, v, h1, h2, h3, h4, h5⟩ := key0 ey ei
            rw [fa h5]
            refine ⟨(R1.nd i m dd h1 h2).1, fun j' hj' hl' a ha hb => ?_⟩
            have hk' : j' < ks.length := by rw [← l1]; exact hl'
            obtain ⟨d2, v2, F2, g1, g2, g3, g4, g5⟩ := all j' _ (List.getElem?_eq_getElem hk')
            rw [fa g3] at hb
            by_cases hJ' : j' ∈ J
            · obtain ⟨y', i', ey', ei'⟩ := ofJ hJ'
              obtain ⟨m', dd', v', h1', h2', h3', h4', h5'⟩ := key0 ey' ei'
              rw [h5'] at g3
              cases g3
              refine (R1.nd i m dd h1 h2).2.2 i' m' dd' (fun z => ?_) h1' a ha hb
              subst z
              have := injI ei ei'
              subst this
              rw [ey] at ey'
              cases ey'
              exact hj' rfl
            · have hs : (ks[j']).safe IO = true := by
                have z := List.all_eq_true.mp hsf (ks[j'], j') (List.mk_mem_zipIdx_iff_getElem?.mpr (List.getElem?_eq_getElem hk'))
                rw [Bool.or_eq_true] at z
                rcases z with z | z
                · exact absurd (by simpa using z) hJ'
                · exact z
              exact Vw.apart R1 (Kind.safe_of hs) g5.vw a hb ⟨i, List.mem_of_getElem? ei, m, dd, h1, h2, ha⟩
          ·
            have key : ∀ {i}, i ∈ IO → ∃ y j d2 v2 m dd, IO[y]? = some i ∧ J[y]? = some j ∧ E1[i]? = some (some (m, dd)) ∧ m.w = true ∧ σ[i]? = some (some v2) ∧ ds'[y]? = some d2 ∧ Rds G H3 d2 v2 (FA' j) ∧ (FA' j).Nodup ∧ (∀ a ∈ FA' j, a ∈ Fs1 i ∨ H1 a = none) ∧ (∀ a ∈ A, a ∉ FA' j) ∧ ∀ i ∈ J, i ≠ j → ∀ a ∈ FA' j, a ∉ FA' i := fun {i} hi => by
              obtain ⟨y, j, ey, ei⟩ := ofI hi
              obtain ⟨m, dd, v2, h1, h2, h3, h4, h5⟩ := key0 ey ei
              obtain ⟨d2, v3, g1, g2, g3, g4, g5, g6, g7⟩ := ao.rd y j ey
              rw [h4] at g2
              cases g2
              rw [fa h5] at g5
              exact ⟨y, j, d2, v2, m, dd, ei, ey, h1, h2, h3, g1, g3, g4, g5, g6, g7⟩
            let Fs3 : Nat → List Addr := fun i => if i ∈ IO then FA' ((J[IO.idxOf i]?).getD 0) else Fs1 i
            have f3in : ∀ {i y j}, IO[y]? = some i → J[y]? = some j → Fs3 i = FA' j := fun {i y j} ei ej => by
              have hi : i ∈ IO := List.mem_of_getElem? ei
              have e0 : IO.idxOf i = y := injI (by rw [List.getElem?_eq_getElem (List.idxOf_lt_length_iff.mpr hi), List.getElem_idxOf]) ei
              show (if i ∈ IO then FA' ((J[IO.idxOf i]?).getD 0) else Fs1 i) = _
              rw [if_pos hi, e0, ej]
              rfl
            have f3out : ∀ {i}, i ∉ IO → Fs3 i = Fs1 i := fun {i} hi => if_neg hi
            have ioQ : ∀ q, (∃ j ∈ J, q ∈ (FF[j]?).getD []) → ∃ i ∈ IO, ∃ m dd, E1[i]? = some (some (m, dd)) ∧ m.w = true ∧ q ∈ Fs1 i := fun q ⟨j, hj, hq⟩ => by
              obtain ⟨y, i, ey, ei⟩ := ofJ hj
              obtain ⟨m, dd, v2, h1, h2, h3, h4, h5⟩ := key0 ey ei
              rw [fa h5] at hq
              exact ⟨i, List.mem_of_getElem? ei, m, dd, h1, h2, hq⟩
            have s3 : Stp IO H1 H3 E1 (setIO E1 IO ds') Fs1 Fs3 := by
              refine ⟨c3.mono fun q o _ h => ioQ q h, fun i hi => f3out hi, fun i a ha => ?_, fun i hi => setIO_out hi, fun i => ?_, fun i d0 e0 => f3out fun hi => by
                obtain ⟨y, j, d2, v2, m, dd, ei, ey, h1, h2, _⟩ := key hi
                rw [h1] at e0
                cases e0
                cases h2⟩
              · by_cases hi : i ∈ IO
                · obtain ⟨y, j, d2, v2, m, dd, ei, ey, h1, h2, h3, h4, h5, h6, h7, _⟩ := key hi
                  rw [f3in ei ey] at ha
                  exact h7 a ha
                · rw [f3out hi] at ha
                  exact .inl ha
              · by_cases hi : i ∈ IO
                · obtain ⟨y, j, d2, v2, m, dd, ei, ey, h1, h2, h3, h4, _⟩ := key hi
                  have e3 := setIO_in ndI ei h4 h1
                  rw [e3, h1]
                  exact ⟨fun m' d' e => by cases e; exact ⟨_, rfl⟩, fun m' d' e => by cases e; exact ⟨_, rfl⟩⟩
                · rw [setIO_out hi]
                  exact ⟨fun m' d' e => ⟨d', e⟩, fun m' d' e => ⟨d', e⟩⟩
            have R3 : Rel G C H3 σ (setIO E1 IO ds') Fs3 := by
              refine ⟨by rw [setIO_len]; exact R1.len, fun i m' d2' e => ?_, fun i m' d2' e hw' => ?_, fun i m' d2' e => ?_, ?_, ?_, R1.pt, fun T hT => c3.tab (R1.tb T hT), fun i d2' e => ?_⟩
              rotate_right
              · by_cases hi : i ∈ IO
                · obtain ⟨y, j, d2, v2, m, dd, ei, ey, h1, h2, h3, h4, h5, _⟩ := key hi
                  rw [setIO_in ndI ei h4 h1] at e
                  cases e
                  cases h2
                · rw [setIO_out hi] at e
                  obtain ⟨a, r, e1, e2, e3, e4, e5⟩ := R1.tp i d2' e
                  refine ⟨a, r, by rw [f3out hi]; exact e1, e2, e3, e4, fun j' mj dj hj' ej hb => ?_⟩
                  by_cases hj2 : j' ∈ IO
                  · obtain ⟨y', j2, d3, v3, m3, dd3, ei', ey', k1, k2, k3, k4, k5, k6, k7, _⟩ := key hj2
                    rw [f3in ei' ey'] at hb
                    rcases k7 a hb with z | z
                    · exact e5 j' _ _ hj' k1 z
                    · obtain ⟨o, eo⟩ := tr1 e (by rw [e1]; exact List.mem_cons_self)
                      rw [z] at eo
                      cases eo
                  · rw [setIO_out hj2] at ej
                    rw [f3out hj2] at hb
                    exact e5 j' _ _ hj' ej hb
              · by_cases hi : i ∈ IO
                · obtain ⟨y, j, d2, v2, m, dd, ei, ey, h1, h2, h3, h4, h5, _⟩ := key hi
                  rw [setIO_in ndI ei h4 h1] at e
                  cases e
                  refine ⟨v2, h3, by rw [f3in ei ey]; exact h5, fun z => ?_⟩
                  obtain ⟨v4, g1, _, g2⟩ := R1.rd i _ _ h1
                  rw [h3] at g1
                  cases g1
                  exact g2 z
                · rw [setIO_out hi] at e
                  obtain ⟨v4, g1, g2, g3⟩ := R1.rd i _ _ e
                  have ap : ∀ a ∈ Fs1 i, ¬ ∃ j ∈ J, a ∈ (FF[j]?).getD [] := fun a ha h => by
                    obtain ⟨i', hi', m, dd, h1, h2, h3⟩ := ioQ a h
                    exact (R1.nd i' m dd h1 h2).2.2 i _ _ (fun z => hi (by rw [z]; exact hi')) e a h3 ha
                  exact ⟨v4, g1, by rw [f3out hi]; exact Rds.chg c3 _ _ _ ap g2, g3⟩
              · by_cases hi : i ∈ IO
                · obtain ⟨y, j, d2, v2, m, dd, ei, ey, h1, h2, h3, h4, h5, h6, h7, h8, h9⟩ := key hi
                  rw [f3in ei ey]
                  obtain ⟨g1, g2, g3⟩ := R1.nd i m dd h1 h2
                  refine ⟨h6, fun a ha hT => ?_, fun j' mj dj hj' ej a ha hb => ?_⟩
                  · rcases h7 a ha with z | z
                    · exact g2 a z hT
                    · exact (R1.hn a z).2 hT
                  · by_cases hj2 : j' ∈ IO
                    · obtain ⟨y', j2, d3, v3, m3, dd3, ei', ey', _⟩ := key hj2
                      rw [f3in ei' ey'] at hb
                      refine h9 j2 (List.mem_of_getElem? ey') (fun z => ?_) a ha hb
                      subst z
                      have := inj ey ey'
                      subst this
                      rw [ei] at ei'
                      cases ei'
                      exact hj' rfl
                    · rw [setIO_out hj2] at ej
                      rw [f3out hj2] at hb
                      rcases h7 a ha with z | z
                      · exact g3 j' mj dj hj' ej a z hb
                      · obtain ⟨o, eo⟩ := tr1 ej hb
                        rw [z] at eo
                        cases eo
                · rw [setIO_out hi] at e
                  rw [f3out hi]
                  obtain ⟨g1, g2, g3⟩ := R1.nd i _ _ e hw'
                  refine ⟨g1, g2, fun j' mj dj hj' ej a ha hb => ?_⟩
                  by_cases hj2 : j' ∈ IO
                  · obtain ⟨y', j2, d3, v3, m3, dd3, ei', ey', k1, k2, k3, k4, k5, k6, k7, _⟩ := key hj2
                    rw [f3in ei' ey'] at hb
                    rcases k7 a hb with z | z
                    · exact g3 j' _ _ hj' k1 a ha z
                    · obtain ⟨o, eo⟩ := tr1 e ha
                      rw [z] at eo
                      cases eo
                  · rw [setIO_out hj2] at ej
                    rw [f3out hj2] at hb
                    exact g3 j' _ _ hj' ej a ha hb
              · by_cases hi : i ∈ IO
                · obtain ⟨y, j, d2, v2, m, dd, ei, ey, h1, h2, h3, h4, h5, h6, h7, h8, h9⟩ := key hi
                  rw [setIO_in ndI ei h4 h1] at e
                  cases e
                  obtain ⟨g1, g2⟩ := R1.nw i _ _ h1
                  rw [f3in ei ey]
                  refine ⟨fun z a ha => ?_, fun z a ha => ?_⟩
                  · rcases h7 a ha with y' | y'
                    · exact g1 z a y'
                    · exact (R1.hn a y').1
                  · rcases h7 a ha with y' | y'
                    · exact g2 z a y'
                    · exact .inr (R1.hn a y').1
                · rw [setIO_out hi] at e
                  rw [f3out hi]
                  exact R1.nw i _ _ e
              · refine (R1.fr.trans c3).mono fun q o e h => ?_
                rcases h with h | h
                · exact h
                · obtain ⟨i, hi, m, dd, h1, h2, h3⟩ := ioQ q h
                  obtain ⟨g1, g2⟩ := R1.nw i _ _ h1
                  cases m with
                  | own =>
                    rw [g1 rfl q h3] at e
                    cases e
                  | io =>
                    rcases g2 rfl q h3 with z | z
                    · exact ⟨i, z⟩
                    · rw [z] at e
                      cases e
                  | arg => cases h2
                  | shr => cases h2
                  | tip => cases h2
              · refine (R1.pr.trans c3).mono fun q o e h => ?_
                rcases h with h | h
                · exact h
                · obtain ⟨i, hi, m, dd, h1, h2, h3⟩ := ioQ q h
                  exact (R1.nd i m dd h1 h2).2.1 q h3
            have st := s1.trans s3
            have lo : ∀ a ∈ A, Loose H (setIO E1 IO ds') Fs3 a := fun a ha => ⟨s1.chg.back (nwA a ha), fun i ⟨m', d2', e⟩ hm => by
              by_cases hi : i ∈ IO
              · obtain ⟨y, j, d2, v2, m, dd, ei, ey, h1, h2, h3, h4, h5, h6, h7, h8, h9⟩ := key hi
                rw [f3in ei ey] at hm
                exact h8 a ha hm
              · rw [setIO_out hi] at e
                rw [f3out hi] at hm
                obtain ⟨o, eo⟩ := tr1 e hm
                rw [nwA a ha] at eo
                cases eo⟩
            refine q v H3 Fs3 A R3 st rA ?_
            cases ro with
            | true => exact ⟨ndA rfl, fun a ha => .inr (lo a ha)⟩
            | false => exact fun a ha => .inr (lo a ha)
        · cases e
      · cases e
    · cases e
  · cases e
theorem ve_call (F0 : TA.FnG X.prog X.w X.K X.mg X.base CX0 k f fd ps (spV G J ro ps.length F)) (hg : X.A.guards = some []) (hr : Room k X.A) (hgl : Gl X x) (hm : X.mg x = some (.ref f)) (hkp : PySem.W.keepIn X.K (.ref f) = true)
    (hb : Binds X.K fd ps []) {E : XK} (hx : Passes CX0 X E) (IO : List Nat) (ha : VL G X (e :: es) M ks l) (hk : ioKinds ks J IO = true := by rfl) (hn : ks.length = ps.length := by rfl)
    (hdb : (x == ("__debug__" : Str)) = false := by decide) (he : starEach (e :: es) X.env = (false, eval e X.env) :: starEach es X.env := by rfl) (hpl : (backTo pos (starEach es X.env)).any (·.1) = false := by rfl) :
    VE G X (.Call (.Name x p) (e :: es) [] pos) (M ++ IO) (kRet ro) (eCall F IO l) :=
  PE.imp (TA.pe_callG F0 hg hr hgl hm hkp hb .nil hx ha hdb he hpl) fun σ H Q h => (call_of (E := E) hk hn h).mono fun vs H1 q => by rw [List.append_nil]; exact q
theorem ve_ref {i : Nat} {e : Expr} (h : PE X e (tVar i)) : VE G X e [] (.ref i) (eVar i) := PE.imp h fun σ H Q ⟨C, E, Fs, R, d, E', e, q⟩ => by
  unfold eVar at e
  split at e
  · rename_i m d' e1
    cases e
    obtain ⟨v, h1, h2, _⟩ := R.rd i m _ e1
    exact ⟨v, h1, q v H Fs _ R Stp.refl h2 ⟨m, e1, h1, rfl⟩⟩
  · cases e
end
end
end VL
set_option maxHeartbeats 4000000
namespace VL
noncomputable section
open PySem PySem.Spec PyProof.Rows L2
open GxR (TabB Tabbed)
variable [LamT]
def wipeE (E : Env) : List Nat → Env
  | [] => E
  | v :: vs => (wipeE E vs).set v none
def setM (E1 E2 : Env) (M : List Nat) : Env := M.foldl (fun E i => E.set i ((E2[i]?).getD none)) E1
theorem wipeE_len {E : Env} : ∀ {vs : List Nat}, (wipeE E vs).length = E.length
  | [] => rfl
  | v :: vs => by rw [wipeE, List.length_set, wipeE_len]
theorem wipeE_out {E : Env} {i : Nat} : ∀ {vs : List Nat}, i ∉ vs → (wipeE E vs)[i]? = E[i]?
  | [], _ => rfl
  | v :: vs, h => by
    rw [wipeE, List.getElem?_set_ne (fun z => h (by rw [z]; exact List.mem_cons_self)), wipeE_out fun z => h (List.mem_cons_of_mem _ z)]
theorem wipeE_in {E : Env} {i : Nat} : ∀ {vs : List Nat}, i ∈ vs → i < E.length → (wipeE E vs)[i]? = some none
  | v :: vs, h, hl => by
    rw [wipeE]
    by_cases e : v = i
    · subst e
      exact List.getElem?_set_self (by rw [wipeE_len]; exact hl)
    · rw [List.getElem?_set_ne e]
      exact wipeE_in ((List.mem_cons.mp h).elim (fun z => absurd z.symm e) id) hl
theorem wipeE_some {E : Env} {i : Nat} {vs : List Nat} {x : Mode × D} (h : (wipeE E vs)[i]? = some (some x)) : E[i]? = some (some x) ∧ i ∉ vs := by
  by_cases hi : i ∈ vs
  · by_cases hl : i < E.length
    · rw [wipeE_in hi hl] at h
      cases h
    · rw [List.getElem?_eq_none (by rw [wipeE_len]; omega)] at h
      cases h
  · rw [wipeE_out hi] at h
    exact ⟨h, hi⟩
theorem setM_len {E2 : Env} : ∀ {M : List Nat} {E1 : Env}, (setM E1 E2 M).length = E1.length
  | [], _ => rfl
  | i :: M, E1 => by
    show (setM (E1.set i _) E2 M).length = _
    rw [setM_len, List.length_set]
theorem setM_out {E2 : Env} {i : Nat} : ∀ {M : List Nat} {E1 : Env}, i ∉ M → (setM E1 E2 M)[i]? = E1[i]?
  | [], _, _ => rfl
  | j :: M, E1, h => by
    show (setM (E1.set j _) E2 M)[i]? = _
    rw [setM_out fun z => h (List.mem_cons_of_mem _ z), List.getElem?_set_ne fun z => h (by rw [z]; exact List.mem_cons_self)]
theorem setM_in {E2 : Env} {i : Nat} : ∀ {M : List Nat} {E1 : Env}, i ∈ M → i < E1.length → (setM E1 E2 M)[i]? = some ((E2[i]?).getD none)
  | j :: M, E1, h, hl => by
    show (setM (E1.set j _) E2 M)[i]? = _
    by_cases hi : i ∈ M
    · exact setM_in hi (by rw [List.length_set]; exact hl)
    · have e : i = j := (List.mem_cons.mp h).elim id fun z => absurd z hi
      subst e
      rw [setM_out hi, List.getElem?_set_self hl]
theorem frz1_out {E : Env} {i j : Nat} (h : i ≠ j) : (frz1 E j)[i]? = E[i]? := by
  unfold frz1
  split
  · exact List.getElem?_set_ne (Ne.symm h)
  · rfl
theorem freeze_out {i : Nat} : ∀ {S : List Nat} {E : Env}, i ∉ S → (freeze E S)[i]? = E[i]?
  | [], _, _ => rfl
  | j :: S, E, h => by
    show (freeze (frz1 E j) S)[i]? = _
    rw [freeze_out fun z => h (List.mem_cons_of_mem _ z), frz1_out fun z => h (by rw [z]; exact List.mem_cons_self)]
def lcL (g : D → Env → Option Env) (t : TF) (f : EF) (vs : List Nat) : List D → Env → Option (List D × Env)
  | [], E => some ([], E)
  | d :: ds, E => match g d E with
    | none => none
    | some E1 => match t E1 with
      | none => none
      | some (false, E2) => lcL g t f vs ds (wipeE E2 vs)
      | some (true, E2) => match f E2 with
        | none => none
        | some (y, E3) => match lcL g t f vs ds (wipeE E3 vs) with
          | some (ys, E4) => some (y :: ys, E4)
          | none => none
def kLc (k ke : Kind) (vs : List Nat) : Kind := if ke = .own then .own else .top (k.S ++ ke.S.filter fun s => !vs.contains s)
def eLc (k : Kind) (src : IF) (g : Bool → D → Env → Option Env) (t : TF) (f : EF) (vs M : List Nat) : EF := fun E => match src E with
  | some (ds, E1) => (match lcL (g (newAll E1 k.S)) t f vs ds (wipeE (freeze E1 k.S) vs) with
    | some (ys, E2) => if sl (decide (ds.length ≤ sizeLine)) then some (.lst ys, setM E1 E2 M) else none
    | none => none)
  | none => none
section
variable {G : Gb} {C : Ctx} {H H' : Hp} {σ : L2.St} {E : Env} {Fs Fs' : Nat → List Addr}
theorem Rel.drop2 (R : Rel G C H σ E Fs) (i : Nat) : Rel G C H (σ.set i none) (E.set i none) Fs := by
  have h : ∀ {j m' d'}, (E.set i none)[j]? = some (some (m', d')) → E[j]? = some (some (m', d')) ∧ j ≠ i := fun {j m' d'} e => by
    by_cases h : j = i
    · subst h
      by_cases hj : j < E.length
      · rw [List.getElem?_set_self hj] at e
        cases e
      · rw [List.getElem?_eq_none (by rw [List.length_set]; omega)] at e
        cases e
    · rw [List.getElem?_set_ne (Ne.symm h)] at e
      exact ⟨e, h⟩
  refine ⟨by rw [List.length_set, List.length_set]; exact R.len, fun j m' d' e => ?_, fun j m' d' e hw => let ⟨a, b, c⟩ := R.nd j m' d' (h e).1 hw; ⟨a, b, fun j' m2 d2 hj e2 => c j' m2 d2 hj (h e2).1⟩, fun j m' d' e => R.nw j m' d' (h e).1, R.fr, R.pr, R.pt, R.tb, fun j d' e => let ⟨a, r, e1, e2, e3, e4, e5⟩ := R.tp j d' (h e).1; ⟨a, r, e1, e2, e3, e4, fun j' m2 d2 hj e6 => e5 j' m2 d2 hj (h e6).1⟩⟩
  obtain ⟨e1, e2⟩ := h e
  rw [List.getElem?_set_ne (Ne.symm e2)]
  exact R.rd j m' d' e1
theorem Rel.wipe (R : Rel G C H σ E Fs) : ∀ vs : List Nat, Rel G C H (L2.wipe σ vs) (wipeE E vs) Fs
  | [] => R
  | v :: vs => (R.wipe vs).drop2 v
theorem Rel.fs (R : Rel G C H σ E Fs) (h : ∀ i, Asg E i → Fs' i = Fs i) : Rel G C H σ E Fs' where
  len := R.len
  rd := fun i m d e => by rw [h i ⟨m, d, e⟩]; exact R.rd i m d e
  nd := fun i m d e hw => by
    rw [h i ⟨m, d, e⟩]
    obtain ⟨h1, h2, h3⟩ := R.nd i m d e hw
    exact ⟨h1, h2, fun j m' d' hj e' => by rw [h j ⟨m', d', e'⟩]; exact h3 j m' d' hj e'⟩
  nw := fun i m d e => by rw [h i ⟨m, d, e⟩]; exact R.nw i m d e
  fr := R.fr
  pr := R.pr
  pt := R.pt
  tb := R.tb
  tp := fun i d e => let ⟨a, r, e1, e2, e3, e4, e5⟩ := R.tp i d e; ⟨a, r, by rw [h i ⟨_, _, e⟩]; exact e1, e2, e3, e4, fun j m' d' hj e6 => by rw [h j ⟨_, _, e6⟩]; exact e5 j m' d' hj e6⟩
theorem Rel.chgL {p : Addr} (R : Rel G C H σ E Fs) (c : Chg (fun q => q = p) H H') (n : ∀ i, Asg E i → p ∉ Fs i) (h0 : C.H0 p = none) (hT : ¬ C.T p) : Rel G C H' σ E Fs where
  len := R.len
  rd := fun i m d e => let ⟨v, h1, h2, h3⟩ := R.rd i m d e; ⟨v, h1, Rds.chg c d v _ (fun a ha z => n i ⟨m, d, e⟩ (by rw [← z]; exact ha)) h2, h3⟩
  nd := R.nd
  nw := R.nw
  fr := (R.fr.trans c).mono fun q o e z => z.elim id fun z => by rw [z, h0] at e; cases e
  pr := (R.pr.trans c).mono fun q o e z => z.elim id fun z => by rw [z]; exact hT
  pt := R.pt
  tb := fun T hT => c.tab (R.tb T hT)
  tp := R.tp
end
theorem wipe_get {σ : L2.St} {i : Nat} : ∀ {vs : List Nat}, i ∈ vs → i < σ.length → (L2.wipe σ vs)[i]? = some none
  | v :: vs, h, hl => by
    show ((L2.wipe σ vs).set v none)[i]? = _
    by_cases e : v = i
    · subst e
      exact List.getElem?_set_self (by rw [wipe_length]; exact hl)
    · rw [List.getElem?_set_ne e]
      exact wipe_get ((List.mem_cons.mp h).elim (fun z => absurd z.symm e) id) hl
theorem wipe_eq {σ σ' : L2.St} {vs W : List Nat} (hl : σ'.length = (L2.wipe σ vs).length) (h : ∀ i, i ∉ W → σ'[i]? = (L2.wipe σ vs)[i]?) (hW : ∀ i ∈ W, i ∈ vs) : L2.wipe σ' vs = L2.wipe σ vs := by
  refine List.ext_getElem? fun i => ?_
  by_cases hi : i ∈ vs
  · by_cases hlt : i < σ.length
    · rw [wipe_get hi hlt, wipe_get hi (by rw [hl, wipe_length]; exact hlt)]
    · rw [List.getElem?_eq_none (by rw [wipe_length, hl, wipe_length]; omega), List.getElem?_eq_none (by rw [wipe_length]; omega)]
  · rw [wipe_out hi]
    exact h i fun z => hi (hW i z)
end
end VL
set_option maxHeartbeats 4000000
namespace VL
noncomputable section
open PySem PySem.Spec PyProof.Rows L2
open GxR (TabB Tabbed)
variable [LamT]
structure LcI (G : Gb) (C : Ctx) (σ : L2.St) (M : List Nat) (Hb : Hp) (Ew : Env) (Fs1 : Nat → List Addr) (P : Addr) (F : List Addr) (Ss : List Nat) (own : Bool) (ys : List D) (Hc : Hp) (Ec : Env) (Fsc : Nat → List Addr) (us : List V) (Gs : List Addr) : Prop where
  rel : Rel G C Hc σ Ec Fsc
  stp : Stp M Hb Hc Ew Ec Fs1 Fsc
  nP : ∀ i, Asg Ec i → P ∉ Fsc i
  acc : Hc P = some (.lst us) ∧ P ∉ Gs ∧ RdsL G Hc ys us Gs ∧ (∀ a ∈ Gs, a ∈ F ∨ (∃ s ∈ Ss, Asg Ew s ∧ a ∈ Fs1 s) ∨ Loose Hb Ec Fsc a) ∧ (own = true → Gs.Nodup ∧ ∀ a ∈ Gs, Loose Hb Ec Fsc a)
section
variable {G : Gb} {C : Ctx} {σ σ3 : L2.St} {M vs W : List Nat} {Hb Hc H2 H4 : Hp} {Ew Ec E3 E4 : Env} {Fs1 Fsc Fs3 Fs4 : Nat → List Addr} {P : Addr} {F A : List Addr} {Ss : List Nat} {own : Bool} {ys : List D} {b : Bool} {us : List V} {Gs : List Addr}
theorem lc_stp (hMv : ∀ i ∈ M, i ∉ vs) (hW : ∀ i ∈ W, i ∈ vs) (hEw : ∀ i ∈ vs, i < Ew.length → Ew[i]? = some none) (hlen : Ec.length = Ew.length) (s : Stp M Hb Hc Ew Ec Fs1 Fsc) (c : Chg No Hc H2) (b3 : BStp (.pr b) W A σ σ3 Ec E3 Fsc Fs3) (s4 : Stp M H2 H4 E3 E4 Fs3 Fs4) (l3 : E3.length = Ec.length) (l4 : E4.length = E3.length) :
    Stp M Hb H4 Ew (wipeE E4 vs) Fs1 (fun i => if i ∈ vs then Fs1 i else Fs4 i) := by
  have e3 : ∀ i, i ∉ vs → E3[i]? = Ec[i]? := fun i hi => b3.env b rfl i fun z => hi (hW i z)
  have f3 : ∀ i, i ∉ vs → Fs3 i = Fsc i := fun i hi => b3.fs i fun z => hi (hW i z)
  have sc : Chg (fun q => ∃ i ∈ M, ∃ m d, Ew[i]? = some (some (m, d)) ∧ m.w = true ∧ q ∈ Fs1 i) Hb H4 := by
    refine ((s.chg.trans c).trans s4.chg).mono fun q o e h => ?_
    rcases h with (h | h) | ⟨i, hi, m, d, h1, h2, h3⟩
    · exact h
    · exact h.elim
    · rw [e3 i (hMv i hi)] at h1
      rw [f3 i (hMv i hi)] at h3
      obtain ⟨d', h4⟩ := (s.md i).2 m d h1
      refine ⟨i, hi, m, d', h4, h2, ?_⟩
      rcases s.gr i q h3 with z | z
      · exact z
      · rw [e] at z
        cases z
  refine ⟨sc, fun i hi => ?_, fun i a ha => ?_, fun i hi => ?_, fun i => ?_, fun i d0 e0 => ?_⟩
  rotate_right
  · by_cases hv : i ∈ vs
    · exact if_pos hv
    · obtain ⟨d1, z1⟩ := (s.md i).1 _ _ e0
      rw [if_neg hv, s4.tf i d1 (by rw [e3 i hv]; exact z1), f3 i hv]
      exact s.tf i d0 e0
  · by_cases hv : i ∈ vs
    · exact if_pos hv
    · rw [if_neg hv, s4.fs i hi, f3 i hv]
      exact s.fs i hi
  · by_cases hv : i ∈ vs
    · rw [if_pos hv] at ha
      exact .inl ha
    · rw [if_neg hv] at ha
      rcases s4.gr i a ha with z | z
      · rw [f3 i hv] at z
        exact s.gr i a z
      · exact .inr (s.chg.back (c.back z))
  · by_cases hv : i ∈ vs
    · by_cases hl : i < Ew.length
      · rw [hEw i hv hl, wipeE_in hv (by omega)]
      · rw [List.getElem?_eq_none (by rw [wipeE_len]; omega), List.getElem?_eq_none (by omega)]
    · rw [wipeE_out hv, s4.env i hi, e3 i hv]
      exact s.env i hi
  · by_cases hv : i ∈ vs
    · have h1 : ∀ m d, Ew[i]? ≠ some (some (m, d)) := fun m d e => by
        rw [hEw i hv (List.getElem?_eq_some_iff.mp e).1] at e
        cases e
      exact ⟨fun m d e => absurd e (h1 m d), fun m d e => absurd hv (wipeE_some e).2⟩
    · rw [wipeE_out hv]
      refine ⟨fun m d e => ?_, fun m d e => ?_⟩
      · obtain ⟨d1, z1⟩ := (s.md i).1 m d e
        rw [← e3 i hv] at z1
        exact (s4.md i).1 m d1 z1
      · obtain ⟨d1, z1⟩ := (s4.md i).2 m d e
        rw [e3 i hv] at z1
        exact (s.md i).2 m d1 z1
theorem Loose.later {a : Addr} {o : HO} {Hb : Hp} (hW : ∀ i ∈ W, i ∈ vs) (e : Hc a = some o) (c : Chg No Hc H2) (b3 : BStp (.pr b) W A σ σ3 Ec E3 Fsc Fs3) (s4 : Stp M H2 H4 E3 E4 Fs3 Fs4) (h : Loose Hb Ec Fsc a) : Loose Hb (wipeE E4 vs) (fun i => if i ∈ vs then Fs1 i else Fs4 i) a := by
  refine ⟨h.1, fun i ⟨m, d, e'⟩ hm => ?_⟩
  obtain ⟨e1, hv⟩ := wipeE_some e'
  have hm : a ∈ (if i ∈ vs then Fs1 i else Fs4 i) := hm
  rw [if_neg hv] at hm
  have hw : i ∉ W := fun z => hv (hW i z)
  obtain ⟨o2, e2⟩ := c.there e
  rcases s4.gr i a hm with z | z
  · rw [b3.fs i hw] at z
    obtain ⟨d1, z1⟩ := (s4.md i).2 m d e1
    rw [b3.env b rfl i hw] at z1
    exact h.2 i ⟨m, d1, z1⟩ z
  · rw [e2] at z
    cases z
theorem LcI.skip (hMv : ∀ i ∈ M, i ∉ vs) (hW : ∀ i ∈ W, i ∈ vs) (hEw : ∀ i ∈ vs, i < Ew.length → Ew[i]? = some none) (hSs : ∀ s ∈ Ss, s ∉ M) (hF : ∀ a ∈ F, C.T a)
    (I : LcI G C σ M Hb Ew Fs1 P F Ss own ys Hc Ec Fsc us Gs) (hEl : Ec.length = Ew.length) (c : Chg No Hc H2) (b3 : BStp (.pr b) W A σ σ3 Ec E3 Fsc Fs3) (s4 : Stp M H2 H4 E3 E4 Fs3 Fs4) (R3 : Rel G C H2 σ3 E3 Fs3) (R4 : Rel G C H4 σ3 E4 Fs4) (hσ : L2.wipe σ3 vs = σ) :
    LcI G C σ M Hb Ew Fs1 P F Ss own ys H4 (wipeE E4 vs) (fun i => if i ∈ vs then Fs1 i else Fs4 i) us Gs := by
  have l3 : E3.length = Ec.length := by rw [R3.len, I.rel.len]; exact b3.len
  have l4 : E4.length = E3.length := by rw [R4.len, R3.len]
  have e3 : ∀ i, i ∉ vs → E3[i]? = Ec[i]? := fun i hi => b3.env b rfl i fun z => hi (hW i z)
  have f3 : ∀ i, i ∉ vs → Fs3 i = Fsc i := fun i hi => b3.fs i fun z => hi (hW i z)
  refine ⟨?_, lc_stp hMv hW hEw hEl I.stp c b3 s4 l3 l4, ?_, ?_⟩
  · have := R4.wipe vs
    rw [hσ] at this
    refine this.fs fun i ⟨m, d, e⟩ => if_neg (wipeE_some e).2
  · obtain ⟨h1, _⟩ := I.acc
    intro i ⟨m, d, e⟩ hm
    obtain ⟨e1, hv⟩ := wipeE_some e
    have hm : P ∈ (if i ∈ vs then Fs1 i else Fs4 i) := hm
    rw [if_neg hv] at hm
    rcases s4.gr i P hm with z | z
    · rw [f3 i hv] at z
      obtain ⟨d1, z1⟩ := (s4.md i).2 m d e1
      rw [e3 i hv] at z1
      exact I.nP i ⟨m, d1, z1⟩ z
    · rw [c.keep h1 rfl fun z => z] at z
      cases z
  · obtain ⟨h1, hPG, h2, h3, h4⟩ := I.acc
    have wr : ∀ {a}, (∃ i ∈ M, ∃ m d, E3[i]? = some (some (m, d)) ∧ m.w = true ∧ a ∈ Fs3 i) → ∃ i ∈ M, ∃ m d, Ec[i]? = some (some (m, d)) ∧ m.w = true ∧ a ∈ Fsc i := fun {a} ⟨i, hi, m, d, g1, g2, g3⟩ => by
      rw [e3 i (hMv i hi)] at g1
      rw [f3 i (hMv i hi)] at g3
      exact ⟨i, hi, m, d, g1, g2, g3⟩
    have ap : ∀ a ∈ Gs, ¬ ∃ i ∈ M, ∃ m d, E3[i]? = some (some (m, d)) ∧ m.w = true ∧ a ∈ Fs3 i := fun a ha h => by
      obtain ⟨i, hi, m, d, g1, g2, g3⟩ := wr h
      rcases h3 a ha with z | ⟨s, hs, ⟨m', d', z1⟩, z2⟩ | z
      · exact (I.rel.nd i m d g1 g2).2.1 a g3 (hF a z)
      · obtain ⟨d2, z3⟩ := (I.stp.md s).1 m' d' z1
        exact (I.rel.nd i m d g1 g2).2.2 s m' d2 (fun e => hSs s hs (by rw [e]; exact hi)) z3 a g3 (by rw [I.stp.fs s (hSs s hs)]; exact z2)
      · exact z.2 i ⟨m, d, g1⟩ g3
    have apP : ¬ ∃ i ∈ M, ∃ m d, E3[i]? = some (some (m, d)) ∧ m.w = true ∧ P ∈ Fs3 i := fun h => by
      obtain ⟨i, hi, m, d, g1, g2, g3⟩ := wr h
      exact I.nP i ⟨m, d, g1⟩ g3
    have tr : ∀ a ∈ Gs, ∃ o, Hc a = some o := fun a ha => let ⟨o, eo, _⟩ := RdsL.trk _ _ _ h2 a ha; ⟨o, eo⟩
    refine ⟨s4.chg.keep (c.keep h1 rfl fun z => z) rfl apP, hPG, RdsL.chg s4.chg _ _ _ ap (RdsL.chg c _ _ _ (fun _ _ z => z) h2), fun a ha => ?_, fun ho => ⟨(h4 ho).1, fun a ha => ?_⟩⟩
    · obtain ⟨o, eo⟩ := tr a ha
      rcases h3 a ha with z | z | z
      · exact .inl z
      · exact .inr (.inl z)
      · exact .inr (.inr (Loose.later hW eo c b3 s4 z))
    · obtain ⟨o, eo⟩ := tr a ha
      exact Loose.later hW eo c b3 s4 ((h4 ho).2 a ha)
theorem LcI.add {ke : Kind} {d : D} {v : V} {F5 : List Addr} {H5 : Hp} {E5 : Env} {Fs5 : Nat → List Addr} (hke : ∀ s ∈ ke.S, s ∉ M) (hFP : P ∉ F) (hb : Hb P = none) (h0 : C.H0 P = none) (hT : ¬ C.T P) (hSs : Ss = ke.S.filter fun s => !vs.contains s) (hown : own = true → ke = .own)
    (I : LcI G C σ M Hb Ew Fs1 P F Ss own ys H5 (wipeE E5 vs) (fun i => if i ∈ vs then Fs1 i else Fs5 i) us Gs) (c4 : ∀ a, H4 a = none → Hb a = none) (p4 : ∃ o, H4 P = some o)
    (pG : ∀ a ∈ Gs, ∃ o, H4 a = some o)
    (vF : ∀ s ∈ vs, Asg E5 s → ∀ a ∈ Fs5 s, a ∈ F) (rd : Rds G H5 d v F5) (ko : KOk σ3 H4 E5 Fs5 ke d v F5) :
    LcI G C σ M Hb Ew Fs1 P F Ss own (ys ++ [d]) (upd H5 P (.lst (us ++ [v]))) (wipeE E5 vs) (fun i => if i ∈ vs then Fs1 i else Fs5 i) (us ++ [v]) (Gs ++ F5) := by
  obtain ⟨hus, PG, h2, h3, h4⟩ := I.acc
  have cP : Chg (fun q => q = P) H5 (upd H5 P (.lst (us ++ [v]))) := Chg.put hus rfl rfl
  have sl : ∀ {s a}, s ∈ ke.S → s ∉ vs → Asg E5 s → a ∈ Fs5 s → (Asg (wipeE E5 vs) s ∧ Asg Ew s ∧ a ∈ Fs1 s) := fun {s a} hs hv g1 g2 => by
    have g1' : Asg (wipeE E5 vs) s := by
      obtain ⟨m, d', e⟩ := g1
      exact ⟨m, d', by rw [wipeE_out hv]; exact e⟩
    have e := I.stp.fs s (hke s hs)
    have e : (if s ∈ vs then Fs1 s else Fs5 s) = Fs1 s := e
    rw [if_neg hv] at e
    exact ⟨g1', I.stp.asg.mp g1', by rw [← e]; exact g2⟩
  have lo : ∀ {a}, Loose H4 E5 Fs5 a → Loose Hb (wipeE E5 vs) (fun i => if i ∈ vs then Fs1 i else Fs5 i) a := fun {a} g => ⟨c4 a g.1, fun i ⟨m, d', e⟩ hm => by
    obtain ⟨e1, hv⟩ := wipeE_some e
    have hm : a ∈ (if i ∈ vs then Fs1 i else Fs5 i) := hm
    rw [if_neg hv] at hm
    exact g.2 i ⟨m, d', e1⟩ hm⟩
  have p5 : ∀ a ∈ F5, a ∈ F ∨ (∃ s ∈ Ss, Asg Ew s ∧ a ∈ Fs1 s) ∨ Loose Hb (wipeE E5 vs) (fun i => if i ∈ vs then Fs1 i else Fs5 i) a := fun a ha => by
    rcases ko.vw a ha with ⟨s, hs, g1, g2⟩ | g
    · by_cases hv : s ∈ vs
      · exact .inl (vF s hv g1 a g2)
      · obtain ⟨_, g3, g4⟩ := sl hs hv g1 g2
        exact .inr (.inl ⟨s, by rw [hSs]; exact List.mem_filter.mpr ⟨hs, by simpa using hv⟩, g3, g4⟩)
    · exact .inr (.inr (lo g))
  have PF5 : P ∉ F5 := fun hp => by
    rcases ko.vw P hp with ⟨s, hs, g1, g2⟩ | g
    · by_cases hv : s ∈ vs
      · exact hFP (vF s hv g1 P g2)
      · obtain ⟨g3, _, _⟩ := sl hs hv g1 g2
        exact I.nP s g3 (show P ∈ (if s ∈ vs then Fs1 s else Fs5 s) by rw [if_neg hv]; exact g2)
    · obtain ⟨o, eo⟩ := p4
      rw [g.1] at eo
      cases eo
  refine ⟨I.rel.chgL cP I.nP h0 hT, ?_, I.nP, upd_same, fun hp => (List.mem_append.mp hp).elim PG PF5, ?_, fun a ha => ?_, fun ho => ?_⟩
  · have st := I.stp
    refine ⟨fun q o e => ?_, st.fs, st.gr, st.env, st.md, st.tf⟩
    by_cases hq : q = P
    · subst hq
      rw [hb] at e
      cases e
    · rcases st.chg q o e with z | ⟨z1, z2⟩ | ⟨z1, z2, o', z3, z4⟩
      · exact .inl (by rw [upd_ne hq]; exact z)
      · exact .inr (.inl ⟨z1, cP.tab z2⟩)
      · exact .inr (.inr ⟨z1, z2, o', by rw [upd_ne hq]; exact z3, z4⟩)
  · refine rdsL_app (RdsL.chg cP _ _ _ (fun a ha z => PG (by rw [← z]; exact ha)) h2) (rdsL_cons.mpr ⟨v, [], F5, [], rfl, by simp, Rds.chg cP _ _ _ (fun a ha z => PF5 (by rw [← z]; exact ha)) rd, rdsL_nil.mpr ⟨rfl, rfl⟩⟩)
  · rcases List.mem_append.mp ha with ha | ha
    · exact h3 a ha
    · exact p5 a ha
  · have hk := hown ho
    subst hk
    obtain ⟨g1, g2⟩ := h4 ho
    have lo5 : ∀ a ∈ F5, Loose H4 E5 Fs5 a := fun a ha => by
      rcases ko.2 a ha with ⟨_, z, _⟩ | g
      · cases z
      · exact g
    refine ⟨?_, fun a ha => (List.mem_append.mp ha).elim (g2 a) fun z => lo (lo5 a z)⟩
    rw [List.nodup_append]
    refine ⟨g1, ko.1, fun a ha b' hb' e => ?_⟩
    subst e
    obtain ⟨o, eo⟩ := pG a ha
    rw [(lo5 a hb').1] at eo
    cases eo
end
end
end VL
set_option maxHeartbeats 4000000
namespace VL
noncomputable section
open PySem PySem.Spec PyProof.Rows L2
open GxR (TabB Tabbed)
variable [LamT]
abbrev VTs (G : Gb) (X : Cx) (ifs : List Expr) (M : List Nat) (t : TF) : Prop := PTs X ifs (tVT G M t)
def tYesF : TF := fun E => some (true, E)
section
variable {G : Gb} {X : Cx} {e : Expr} {M M' : List Nat} {k : Kind} {f : EF} {t : TF}
theorem vts_nil : VTs G X [] [] tYesF := ⟨fun pins s σ H Q I ⟨C, E, Fs, R, b, E', e, q⟩ => pts_nil.run pins s σ H Q I (by cases e; exact q H Fs R Stp.refl)⟩
theorem ve_mono (h : VE G X e M k f) (hm : (M.all fun i => M'.contains i) = true := by rfl) : VE G X e M' k f := PE.imp h fun σ H Q ⟨C, E, Fs, R, d, E', e, q⟩ =>
  ⟨C, E, Fs, R, d, E', e, fun v H' Fs' F R' s' r' k' => q v H' Fs' F R' (s'.mono fun i hi => by simpa using List.all_eq_true.mp hm i hi) r' k'⟩
theorem vts_mono {es : List Expr} (h : VTs G X es M t) (hm : (M.all fun i => M'.contains i) = true := by rfl) : VTs G X es M' t := ⟨fun pins s σ H Q I ⟨C, E, Fs, R, b, E', e, q⟩ => h.run pins s σ H Q I
  ⟨C, E, Fs, R, b, E', e, fun H' Fs' R' s' => q H' Fs' R' (s'.mono fun i hi => by simpa using List.all_eq_true.mp hm i hi)⟩⟩
end
def lcOk (k ke : Kind) (M W vs : List Nat) : Bool := M.all (fun i => !vs.contains i) && W.all (fun i => vs.contains i) && k.safe M && ke.safe M
section
variable {G : Gb} {C C' : Ctx} {H H1 Hc : Hp} {σ : L2.St} {E E1 Ec : Env} {Fs Fs1 Fsc : Nat → List Addr} {M M0 vs : List Nat} {P : Addr} {F : List Addr} {k ke : Kind} {ys : List D} {Q : VK} {us : List V} {Gs : List Addr}
theorem lc_end (hM : ∀ i ∈ M, i ∉ vs ∧ i ∉ k.S) (hke : ∀ s ∈ ke.S, s ∉ M) (hC0 : C'.H0 = C.H0) (hCZ : C'.Z = C.Z) (hCT : ∀ a, C.T a → C'.T a) (hCi : C'.iov = C.iov) (hP1 : H1 P = none) (R1 : Rel G C H1 σ E1 Fs1) (s1 : Stp M0 H H1 E E1 Fs Fs1) (tr : ∀ a ∈ F, ∃ o, H1 a = some o) (vw : Vw H E1 Fs1 k.S F)
    (I : LcI G C' (L2.wipe σ vs) M H1 (wipeE (freeze E1 k.S) vs) Fs1 P F (ke.S.filter fun s => !vs.contains s) (decide (ke = .own)) ys Hc Ec Fsc us Gs)
    (q : ∀ v H' Fs' F, Rel G C H' σ (setM E1 Ec M) Fs' → Stp (M0 ++ M) H H' E (setM E1 Ec M) Fs Fs' → Rds G H' (.lst ys) v F → KOk σ H (setM E1 Ec M) Fs' (kLc k ke vs) (.lst ys) v F → Q v H') : Q (.ref P) Hc := by
  obtain ⟨a1, PG, a2, a3, a4⟩ := I.acc
  have ew : ∀ i ∈ M, (wipeE (freeze E1 k.S) vs)[i]? = E1[i]? := fun i hi => by rw [wipeE_out (hM i hi).1, freeze_out (hM i hi).2]
  have ewA : ∀ {i}, Asg (wipeE (freeze E1 k.S) vs) i → Asg E1 i := fun {i} ⟨m, d, e⟩ => by
    obtain ⟨e1, _⟩ := wipeE_some e
    exact asg_frz.mp ⟨m, d, e1⟩
  have wA : ∀ {i}, i ∉ vs → Asg E1 i → Asg (wipeE (freeze E1 k.S) vs) i := fun {i} hv h => by
    obtain ⟨m, d, e⟩ := asg_frz (S := k.S).mpr h
    exact ⟨m, d, by rw [wipeE_out hv]; exact e⟩
  have tr1 : ∀ {i a}, Asg E1 i → a ∈ Fs1 i → ∃ o, H1 a = some o := fun {i a} ⟨m, d, e⟩ ha => by
    obtain ⟨v, _, r, _⟩ := R1.rd i m d e
    obtain ⟨o, eo, _⟩ := Rds.trk d v _ r a ha
    exact ⟨o, eo⟩
  have ein : ∀ {i m d'}, i ∈ M → (setM E1 Ec M)[i]? = some (some (m, d')) → Ec[i]? = some (some (m, d')) ∧ ∃ d, E1[i]? = some (some (m, d)) := fun {i m d'} hi e => by
    have hl : i < E1.length := by
      have := (List.getElem?_eq_some_iff.mp e).1
      rw [setM_len] at this
      exact this
    rw [setM_in hi hl] at e
    have e2 : Ec[i]? = some (some (m, d')) := by
      cases h : Ec[i]? with
      | none => rw [h] at e; cases e
      | some o =>
        rw [h] at e
        exact e
    obtain ⟨d, e3⟩ := (I.stp.md i).2 m d' e2
    exact ⟨e2, d, by rw [← ew i hi]; exact e3⟩
  have ein2 : ∀ {i m d}, i ∈ M → E1[i]? = some (some (m, d)) → ∃ d', (setM E1 Ec M)[i]? = some (some (m, d')) := fun {i m d} hi e => by
    obtain ⟨d', e2⟩ := (I.stp.md i).1 m d (by rw [ew i hi]; exact e)
    exact ⟨d', by rw [setM_in hi (List.getElem?_eq_some_iff.mp e).1, e2]; rfl⟩
  have asgE : ∀ {i}, Asg (setM E1 Ec M) i ↔ Asg E1 i := fun {i} => by
    by_cases hi : i ∈ M
    · exact ⟨fun ⟨m, d, e⟩ => let ⟨_, d', e'⟩ := ein hi e; ⟨m, d', e'⟩, fun ⟨m, d, e⟩ => let ⟨d', e'⟩ := ein2 hi e; ⟨m, d', e'⟩⟩
    · unfold Asg
      rw [setM_out hi]
  have wr : ∀ q, (∃ i ∈ M, ∃ m d, (wipeE (freeze E1 k.S) vs)[i]? = some (some (m, d)) ∧ m.w = true ∧ q ∈ Fs1 i) → ∃ i ∈ M, ∃ m d, E1[i]? = some (some (m, d)) ∧ m.w = true ∧ q ∈ Fs1 i := fun q ⟨i, hi, m, d, h1, h2, h3⟩ => ⟨i, hi, m, d, by rw [← ew i hi]; exact h1, h2, h3⟩
  let Fsf : Nat → List Addr := fun i => if i ∈ M then Fsc i else Fs1 i
  have fin : ∀ {i}, i ∈ M → Fsf i = Fsc i := fun {i} hi => if_pos hi
  have fout : ∀ {i}, i ∉ M → Fsf i = Fs1 i := fun {i} hi => if_neg hi
  have R2 : Rel G C Hc σ (setM E1 Ec M) Fsf := by
    refine ⟨by rw [setM_len]; exact R1.len, fun i m d e => ?_, fun i m d e hw => ?_, fun i m d e => ?_, ?_, ?_, R1.pt, I.rel.tb, fun i d e => ?_⟩
    rotate_right
    · have eE : ∃ d0, E1[i]? = some (some (.tip, d0)) := by
        by_cases hi : i ∈ M
        · exact (ein hi e).2
        · rw [setM_out hi] at e
          exact ⟨d, e⟩
      obtain ⟨d0, e0⟩ := eE
      have hf : Fsf i = Fs1 i := by
        by_cases hi : i ∈ M
        · rw [fin hi]
          exact I.stp.tf i d0 (by rw [ew i hi]; exact e0)
        · exact fout hi
      obtain ⟨a, r, e1, e2, e3, e4, e5⟩ := R1.tp i d0 e0
      refine ⟨a, r, by rw [hf]; exact e1, e2, e3, e4, fun j m' d' hj ej hb => ?_⟩
      by_cases hj2 : j ∈ M
      · obtain ⟨_, d3, e6⟩ := ein hj2 ej
        rw [fin hj2] at hb
        rcases I.stp.gr j a hb with z | z
        · exact e5 j m' d3 hj e6 z
        · obtain ⟨o, eo⟩ := tr1 ⟨_, _, e0⟩ (by rw [e1]; exact List.mem_cons_self)
          rw [z] at eo
          cases eo
      · rw [setM_out hj2] at ej
        rw [fout hj2] at hb
        exact e5 j m' d' hj ej hb
    · by_cases hi : i ∈ M
      · obtain ⟨e2, d1, e1⟩ := ein hi e
        obtain ⟨v, h1, h2, h3⟩ := I.rel.rd i m d e2
        rw [wipe_out (hM i hi).1] at h1
        exact ⟨v, h1, by rw [fin hi]; exact h2, fun z => by rw [h3 z, hCi]⟩
      · rw [setM_out hi] at e
        obtain ⟨v, h1, h2, h3⟩ := R1.rd i m d e
        refine ⟨v, h1, ?_, h3⟩
        rw [fout hi]
        refine Rds.chg I.stp.chg _ _ _ (fun a ha h => ?_) h2
        obtain ⟨j, hj, m', d', g1, g2, g3⟩ := wr a h
        exact (R1.nd j m' d' g1 g2).2.2 i m d (fun z => hi (by rw [z]; exact hj)) e a g3 ha
    · by_cases hi : i ∈ M
      · obtain ⟨e2, d1, e1⟩ := ein hi e
        obtain ⟨h1, h2, h3⟩ := I.rel.nd i m d e2 hw
        rw [fin hi]
        refine ⟨h1, fun a ha hT => h2 a ha (hCT a hT), fun j m' d' hj ej a ha hb => ?_⟩
        by_cases hj2 : j ∈ M
        · obtain ⟨e3, _⟩ := ein hj2 ej
          rw [fin hj2] at hb
          exact h3 j m' d' hj e3 a ha hb
        · rw [setM_out hj2] at ej
          rw [fout hj2] at hb
          rcases I.stp.gr i a ha with z | z
          · exact (R1.nd i m d1 e1 hw).2.2 j m' d' hj ej a z hb
          · obtain ⟨o, eo⟩ := tr1 ⟨m', d', ej⟩ hb
            rw [z] at eo
            cases eo
      · rw [setM_out hi] at e
        obtain ⟨h1, h2, h3⟩ := R1.nd i m d e hw
        rw [fout hi]
        refine ⟨h1, h2, fun j m' d' hj ej a ha hb => ?_⟩
        by_cases hj2 : j ∈ M
        · obtain ⟨e3, d3, e4⟩ := ein hj2 ej
          rw [fin hj2] at hb
          rcases I.stp.gr j a hb with z | z
          · exact h3 j m' d3 hj e4 a ha z
          · obtain ⟨o, eo⟩ := tr1 ⟨m, d, e⟩ ha
            rw [z] at eo
            cases eo
        · rw [setM_out hj2] at ej
          rw [fout hj2] at hb
          exact h3 j m' d' hj ej a ha hb
    · by_cases hi : i ∈ M
      · obtain ⟨e2, d1, e1⟩ := ein hi e
        rw [fin hi, ← hC0, ← hCZ]
        exact I.rel.nw i m d e2
      · rw [setM_out hi] at e
        rw [fout hi]
        exact R1.nw i m d e
    · rw [← hC0, ← hCZ]
      exact I.rel.fr
    · refine (R1.pr.trans I.stp.chg).mono fun q o e h => ?_
      rcases h with h | h
      · exact h
      · obtain ⟨j, hj, m', d', g1, g2, g3⟩ := wr q h
        exact (R1.nd j m' d' g1 g2).2.1 q g3
  have s2 : Stp M H1 Hc E1 (setM E1 Ec M) Fs1 Fsf := by
    refine ⟨I.stp.chg.mono fun q o _ h => wr q h, fun i hi => fout hi, fun i a ha => ?_, fun i hi => setM_out hi, fun i => ?_, fun i d0 e0 => ?_⟩
    rotate_right
    · by_cases hi : i ∈ M
      · rw [fin hi]
        exact I.stp.tf i d0 (by rw [ew i hi]; exact e0)
      · exact fout hi
    · by_cases hi : i ∈ M
      · rw [fin hi] at ha
        exact I.stp.gr i a ha
      · rw [fout hi] at ha
        exact .inl ha
    · by_cases hi : i ∈ M
      · exact ⟨fun m d e => ein2 hi e, fun m d e => (ein hi e).2⟩
      · rw [setM_out hi]
        exact ⟨fun m d e => ⟨d, e⟩, fun m d e => ⟨d, e⟩⟩
  have lo : ∀ {a}, H1 a = none → (∀ i ∈ M, Asg Ec i → a ∉ Fsc i) → Loose H (setM E1 Ec M) Fsf a := fun {a} n h => ⟨s1.chg.back n, fun i hi hm => by
    by_cases hM' : i ∈ M
    · rw [fin hM'] at hm
      obtain ⟨m, d, e⟩ := hi
      exact h i hM' ⟨m, d, (ein hM' e).1⟩ hm
    · rw [fout hM'] at hm
      obtain ⟨o, eo⟩ := tr1 (asgE.mp hi) hm
      rw [n] at eo
      cases eo⟩
  have loP : Loose H (setM E1 Ec M) Fsf P := lo hP1 fun i _ hi => I.nP i hi
  refine q (.ref P) Hc Fsf (P :: Gs) R2 (s1.trans s2) (rds_lst.mpr ⟨P, us, Gs, rfl, a1, a2, rfl⟩) ?_
  unfold kLc
  by_cases hk : ke = .own
  · rw [if_pos hk]
    obtain ⟨g1, g2⟩ := a4 (decide_eq_true hk)
    refine ⟨List.nodup_cons.mpr ⟨PG, g1⟩, fun a ha => .inr ?_⟩
    rcases List.mem_cons.mp ha with rfl | ha
    · exact loP
    · exact lo (g2 a ha).1 fun i _ hi => (g2 a ha).2 i hi
  · rw [if_neg hk]
    refine ⟨fun a ha => ?_, fun a r _ e => by cases e; exact loP⟩
    rcases List.mem_cons.mp ha with rfl | ha
    · exact .inr loP
    · have kSM : ∀ s ∈ k.S, s ∉ M := fun s hs hm => (hM s hm).2 hs
      rcases a3 a ha with z | ⟨s, hs, z1, z2⟩ | z
      · rcases vw a z with ⟨s, hs, g1, g2⟩ | g
        · exact .inl ⟨s, List.mem_append_left _ hs, asgE.mpr g1, by rw [fout (kSM s hs)]; exact g2⟩
        · refine .inr ⟨g.1, fun i hi hm => ?_⟩
          by_cases hM' : i ∈ M
          · rw [fin hM'] at hm
            rcases I.stp.gr i a hm with y | y
            · exact g.2 i (asgE.mp hi) y
            · obtain ⟨o, eo⟩ := tr a z
              rw [y] at eo
              cases eo
          · rw [fout hM'] at hm
            exact g.2 i (asgE.mp hi) hm
      · have hs' := (List.mem_filter.mp hs).1
        exact .inl ⟨s, List.mem_append_right _ hs, asgE.mpr (ewA z1), by rw [fout (hke s hs')]; exact z2⟩
      · exact .inr (lo z.1 fun i _ hi => z.2 i hi)
end
section
variable {G : Gb} {X : Cx}
theorem lc_of {M M0 W vs : List Nat} {k ke : Kind} {src : IF} {g : Bool → D → Env → Option Env} {t : TF} {f : EF} {σ : L2.St} {H : Hp} {Q : VK} (sd : lcOk k ke M W vs = true) (h : tV G (M0 ++ M) (kLc k ke vs) (eLc k src g t f vs M) σ H Q) :
    tLc (tVI G M0 k src) (fun v σ H Q => ∃ b, tVG G (.pr b) W (g b) v σ H Q) (tVT G M t) (tV G M ke f) vs σ H Q := by
  obtain ⟨C, E, Fs, R, d, E', e, q⟩ := h
  unfold lcOk at sd
  simp only [Bool.and_eq_true] at sd
  obtain ⟨⟨⟨d1, d2⟩, d3⟩, d4⟩ := sd
  have hMv : ∀ i ∈ M, i ∉ vs := fun i hi => by simpa using List.all_eq_true.mp d1 i hi
  have hW : ∀ i ∈ W, i ∈ vs := fun i hi => by simpa using List.all_eq_true.mp d2 i hi
  have hkM : ∀ i ∈ M, i ∉ k.S := fun i hi hs => Kind.safe_of d3 i hs hi
  have hke := Kind.safe_of d4
  unfold eLc at e
  split at e
  · rename_i ds E1 e1
    split at e
    · rename_i ys E2 e2
      split at e
      · rename_i hlen
        replace hlen := sl_iff.mp hlen
        cases e
        refine ⟨C, E, Fs, R, ds, E1, e1, fun J H1 Fs1 F R1 s1 it tr vw P hP => ?_⟩
        have nwF := new_of R1 R.hn vw
        generalize newAll E1 k.S = bb at e2 nwF
        have trF : ∀ a ∈ F, ∃ o, H1 a = some o := fun a ha => let ⟨o, eo, _⟩ := tr a ha; ⟨o, eo⟩
        have PF : P ∉ F := fun hp => by
          obtain ⟨o, eo⟩ := trF P hp
          rw [hP] at eo
          cases eo
        have hPn := R1.hn P hP
        have RL := ((R1.lock R.hn tr vw).chg (Chg.new (p := P) (u := .lst []) hP)).wipe vs
        have EwN : ∀ i ∈ vs, i < (wipeE (freeze E1 k.S) vs).length → (wipeE (freeze E1 k.S) vs)[i]? = some none := fun i hi hl => wipeE_in hi (by rw [wipeE_len] at hl; exact hl)
        have cF : ∀ {Hc Ec Fsc}, Rel G { C with T := fun a => C.T a ∨ a ∈ F, HT := H1 } Hc (L2.wipe σ vs) Ec Fsc → Chg (fun a => a ∉ F) H1 Hc := fun r => r.pr.mono fun q o _ h hF => h (.inr hF)
        refine ⟨fun i m Hc => m = ds.length - i ∧ i ≤ ds.length ∧ ∃ Ec Fsc ysd rest us Gs, LcI G { C with T := fun a => C.T a ∨ a ∈ F, HT := H1 } (L2.wipe σ vs) M H1 (wipeE (freeze E1 k.S) vs) Fs1 P F (ke.S.filter fun s => !vs.contains s) (decide (ke = .own)) ysd Hc Ec Fsc us Gs ∧
          lcL (g bb) t f vs (ds.drop i) Ec = some (rest, E2) ∧ ys = ysd ++ rest ∧ ysd.length ≤ i, ⟨ds.length, by simp, Nat.zero_le _, _, Fs1, [], ys, [], [], ⟨RL, Stp.of (Chg.new hP), fun i hi hm => ?_, upd_same, (by simp), rdsL_nil.mpr ⟨rfl, rfl⟩, fun a ha => (by cases ha), fun _ => ⟨List.nodup_nil, fun a ha => (by cases ha)⟩⟩, e2, rfl, Nat.zero_le _⟩, ?_⟩
        · obtain ⟨m, d, e⟩ := hi
          obtain ⟨v, _, r, _⟩ := RL.rd i m d e
          obtain ⟨m0, d0, e0⟩ := asg_frz.mp ⟨m, d, (wipeE_some e).1⟩
          obtain ⟨v0, _, r0, _⟩ := R1.rd i m0 d0 e0
          obtain ⟨o, eo, _⟩ := Rds.trk _ _ _ r0 P hm
          rw [hP] at eo
          cases eo
        · rintro i m Hc ⟨rfl, hi', Ec, Fsc, ysd, rest, us, Gs, I, e3, e4, hyl⟩
          have c2 := cF I.rel
          by_cases hlt : i < ds.length
          · refine .inr ⟨it.go Hc i c2 hlt, fun Hn => i < ds.length ∧ ∃ Ec Fsc ysd rest us Gs, LcI G { C with T := fun a => C.T a ∨ a ∈ F, HT := H1 } (L2.wipe σ vs) M H1 (wipeE (freeze E1 k.S) vs) Fs1 P F (ke.S.filter fun s => !vs.contains s) (decide (ke = .own)) ysd Hn Ec Fsc us Gs ∧
              lcL (g bb) t f vs (ds.drop (i + 1)) Ec = some (rest, E2) ∧ ys = ysd ++ rest ∧ ysd.length ≤ i + 1, fun Hn h => ⟨ds.length - (i + 1), by omega, rfl, h.1, h.2⟩, fun y H2 hy => ?_⟩
            obtain ⟨c3, dd, A, ed, rdA, hA⟩ := it.yl Hc i y H2 c2 hlt hy
            have ed' : ds.drop i = dd :: ds.drop (i + 1) := by
              rw [List.drop_eq_getElem_cons hlt]
              rw [List.getElem?_eq_getElem hlt] at ed
              cases ed
              rfl
            rw [ed'] at e3
            unfold lcL at e3
            have Rc := I.rel.chg c3
            have lEc : Ec.length = (wipeE (freeze E1 k.S) vs).length := by
              have h1 := I.rel.len
              have h2 := RL.len
              omega
            cases eg : g bb dd Ec with
            | none => rw [eg] at e3; cases e3
            | some E3 =>
              rw [eg] at e3
              dsimp only at e3
              refine ⟨bb, _, Ec, Fsc, H2, A, dd, Rc, Rc.hn, rdA, ⟨fun a ha => .inr (hA a ha), fun z a ha => nwF z a (hA a ha)⟩, E3, eg, fun σ3 Fs3 R3 b3 => ⟨wipe_eq b3.len b3.sg hW, ?_⟩⟩
              have hσ : L2.wipe σ3 vs = L2.wipe σ vs := wipe_eq b3.len b3.sg hW
              cases et : t E3 with
              | none => rw [et] at e3; cases e3
              | some pt =>
                obtain ⟨tb, E4⟩ := pt
                rw [et] at e3
                refine ⟨_, E3, Fs3, R3, tb, E4, et, fun H4 Fs4 R4 s4 => ?_⟩
                cases tb with
                | false =>
                  dsimp only at e3
                  refine ite_ff ⟨hlt, _, _, ysd, rest, us, Gs, I.skip hMv hW EwN (fun s hs => hke s (List.mem_filter.mp hs).1) (fun a ha => Or.inr ha) lEc c3 b3 s4 R3 R4 hσ, e3, e4, by omega⟩
                | true =>
                  dsimp only at e3
                  refine ite_tt ?_
                  cases ef : f E4 with
                  | none => rw [ef] at e3; cases e3
                  | some py =>
                    obtain ⟨yd, E5⟩ := py
                    rw [ef] at e3
                    dsimp only at e3
                    cases er : lcL (g bb) t f vs (ds.drop (i + 1)) (wipeE E5 vs) with
                    | none => rw [er] at e3; cases e3
                    | some pr =>
                      obtain ⟨ys', E6⟩ := pr
                      rw [er] at e3
                      cases e3
                      refine ⟨_, E4, Fs4, R4, yd, E5, ef, fun v5 H5 Fs5 F5 R5 s5 r5 k5 => ?_⟩
                      have s45 : Stp M H2 H5 E3 E5 Fs3 Fs5 := (s4.trans s5).mono fun i hi => by simpa using hi
                      have I5 := I.skip hMv hW EwN (fun s hs => hke s (List.mem_filter.mp hs).1) (fun a ha => Or.inr ha) lEc c3 b3 s45 R3 R5 hσ
                      obtain ⟨h1, PG, h2, h3, h4⟩ := I.acc
                      have wrP : ∀ {j}, j ∈ M → ∀ m d, E3[j]? = some (some (m, d)) → P ∉ Fs3 j := fun {j} hj m d ej hm => by
                        have hjv : j ∉ W := fun z => hMv j hj (hW j z)
                        rw [b3.fs j hjv] at hm
                        rw [b3.env bb rfl j hjv] at ej
                        exact I.nP j ⟨m, d, ej⟩ hm
                      have hP2 : H2 P = some (.lst us) := c3.keep h1 rfl fun z => z
                      have hP5 : H5 P = some (.lst us) := s45.chg.keep hP2 rfl fun ⟨j, hj, m, d, ej, _, hm⟩ => wrP hj m d ej hm
                      have hP4 : H4 P = some (.lst us) := s4.chg.keep hP2 rfl fun ⟨j, hj, m, d, ej, _, hm⟩ => wrP hj m d ej hm
                      have ll := rdsL_len h2
                      refine ⟨us, hP5, by omega, hlt, _, _, ysd ++ [yd], ys', _, _, I5.add (H4 := H4) hke PF hP hPn.1 (fun z => z.elim hPn.2 PF) rfl (fun h => of_decide_eq_true h) (fun a n => I.stp.chg.back (c3.back (s4.chg.back n))) ⟨_, hP4⟩ (fun a ha => ?_) (fun s hsv hsa a ha => ?_) r5 k5, er, by rw [e4]; simp, by simp; omega⟩
                      · obtain ⟨o, eo, _⟩ := RdsL.trk _ _ _ h2 a ha
                        obtain ⟨o2, eo2⟩ := c3.there eo
                        exact s4.chg.there eo2
                      ·
                        have hsM : s ∉ M := fun z => hMv s z hsv
                        rw [s45.fs s hsM] at ha
                        by_cases hsW : s ∈ W
                        · exact hA a (b3.inW s hsW a ha)
                        · have h5 := (s45.asg (i := s)).mp hsa
                          rw [b3.asg s hsW] at h5
                          have h6 := I.stp.asg.mp h5
                          obtain ⟨m, d, e'⟩ := h6
                          exact absurd hsv (wipeE_some e').2
          · have ei : ds.drop i = [] := List.drop_eq_nil_of_le (by omega)
            rw [ei] at e3
            cases e3
            rw [List.append_nil] at e4
            subst e4
            exact .inl ⟨it.st Hc i c2 (by omega), lc_end (C := C) (C' := { C with T := fun a => C.T a ∨ a ∈ F, HT := H1 }) (fun i hi => ⟨hMv i hi, hkM i hi⟩) hke rfl rfl (fun a h => Or.inl h) rfl hP R1 s1 trF vw I q⟩
      · cases e
    · cases e
  · cases e
variable {elt tg iter : Expr} {ifs : List Expr} {scope : Scope} {own : List (Str × Nat)} {pos : Pos} {M M0 W : List Nat} {k ke : Kind} {src : IF} {g : Bool → D → Env → Option Env} {t : TF} {f : EF}
theorem ve_lc (x : XOk G X) (hN : X.N.Nodup) (hi : VI G X tg iter M0 k src) (ok : BlkOk X.N X.env.scope scope own)
    (hg : ∀ (b : Bool) (s : Shared) (H : Hp) (C : Addr) (cl : List (Str × Addr)) (fp : List Addr), VG G (X.blk s H scope (compEnvC scope cl C X.env) fp) tg (.pr b) W (g b))
    (ht : ∀ (s : Shared) (H : Hp) (C : Addr) (cl : List (Str × Addr)) (fp : List Addr), VTs G (X.blk s H scope (compEnvC scope cl C X.env) fp) ifs M t)
    (he : ∀ (s : Shared) (H : Hp) (C : Addr) (cl : List (Str × Addr)) (fp : List Addr), VE G (X.blk s H scope (compEnvC scope cl C X.env) fp) elt M ke f)
    (sd : lcOk k ke M W (own.map (·.2)) = true := by rfl) (hs : ∀ x, foldedSetIterable iter X.env x = pure x := by intro _; rfl) :
    VE G X (.ListComp elt [⟨tg, iter, ifs, 0⟩] scope pos) (M0 ++ M) (kLc k ke (own.map (·.2))) (eLc k src g t f (own.map (·.2)) M) :=
  PE.imp (pe_lc x.calm hN hi ok (fun s H C cl fp => pg_ex fun b => hg b s H C cl fp) ht he hs) fun σ H Q h => lc_of sd h
end
end
end VL
set_option maxHeartbeats 4000000
namespace VL
noncomputable section
open PySem PySem.Spec PyProof.Rows L2
open GxR (TabB Tabbed)
variable [LamT]
inductive Pst where
  | ix (i : Int) | fl (j : Nat)
def Pst.isI : Pst → Bool
  | .ix _ => true
  | .fl _ => false
def Pst.at : Pst → Nat → Option Nat
  | .ix i, n => ixN n i
  | .fl j, _ => some j
def getP : List Pst → D → Option D
  | [], d => some d
  | .ix i :: p, .lst ds => (atI ds i).bind (getP p)
  | .ix i :: p, .tup ds => (atI ds i).bind (getP p)
  | .fl j :: p, .obj _ _ ds => (ds[j]?).bind (getP p)
  | _, _ => none
def setP : List Pst → D → D → Option D
  | [], _, n => some n
  | .fl j :: p, .obj c ns ds, n => (ds[j]?).bind fun d1 => (setP p d1 n).map fun d2 => .obj c ns (ds.set j d2)
  | .ix i :: p, .lst ds, n => (ixN ds.length i).bind fun j => (ds[j]?).bind fun d1 => (setP p d1 n).map fun d2 => .lst (ds.set j d2)
  | .ix i :: p, .tup ds, n => (ixN ds.length i).bind fun j => (ds[j]?).bind fun d1 => (setP p d1 n).map fun d2 => .tup (ds.set j d2)
  | _, _, _ => none
def Foc (G : Gb) (H : Hp) : List Pst → D → V → List Addr → D → V → List Addr → List Addr → List Addr → Prop
  | [], d, v, F, sd, sv, P, A, S => sd = d ∧ sv = v ∧ P = [] ∧ S = [] ∧ A = F ∧ Rds G H d v F
  | i :: p, d, v, F, sd, sv, P, A, S => ∃ (a : Addr) (xs : List V) (ds : List D) (j : Nat) (d1 : D) (x1 : V) (A1 A2 A3 P' S' Q : List Addr), v = .ref a ∧ ((d = .lst ds ∧ H a = some (.lst xs) ∧ Q = [a] ∧ i.isI = true) ∨ (d = .tup ds ∧ SqT G.K H a xs ∧ Q = [] ∧ i.isI = true) ∨ ∃ c ns dx us, d = .obj c ns ds ∧ H a = some (.ins (G.cls c) dx us) ∧ us.map (·.1) = ns ∧ xs = us.map (·.2) ∧ Q = [a] ∧ i.isI = false) ∧ i.at ds.length = some j ∧ ds[j]? = some d1 ∧ xs[j]? = some x1 ∧
      RdsL G H (ds.take j) (xs.take j) A1 ∧ RdsL G H (ds.drop (j + 1)) (xs.drop (j + 1)) A3 ∧ Foc G H p d1 x1 A2 sd sv P' A S' ∧ F = Q ++ (A1 ++ (A2 ++ A3)) ∧ P = Q ++ (A1 ++ P') ∧ S = S' ++ A3
section
variable {G : Gb} {H H' : Hp}
theorem rdsL_split : ∀ {ds : List D} {vs : List V} {F : List Addr} {j : Nat} {d : D}, RdsL G H ds vs F → ds[j]? = some d → ∃ x A B C', vs[j]? = some x ∧ RdsL G H (ds.take j) (vs.take j) A ∧ Rds G H d x B ∧ RdsL G H (ds.drop (j + 1)) (vs.drop (j + 1)) C' ∧ F = A ++ (B ++ C')
  | [], _, _, j, d, h, e => by simp at e
  | d' :: ds, _, _, 0, d, h, e => by
    obtain ⟨x, r, A, B, rfl, rfl, h1, h2⟩ := rdsL_cons.mp h
    simp at e
    subst e
    exact ⟨x, [], A, B, rfl, rdsL_nil.mpr ⟨rfl, rfl⟩, h1, h2, rfl⟩
  | d' :: ds, _, _, j + 1, d, h, e => by
    obtain ⟨x, r, A, B, rfl, rfl, h1, h2⟩ := rdsL_cons.mp h
    obtain ⟨y, A', B', C', g1, g2, g3, g4, g5⟩ := rdsL_split h2 (show ds[j]? = some d by simpa using e)
    exact ⟨y, A ++ A', B', C', by simpa using g1, rdsL_cons.mpr ⟨x, _, A, A', rfl, rfl, h1, g2⟩, g3, g4, by rw [g5, List.append_assoc]⟩
theorem rdsL_join {ds : List D} {vs : List V} {A B C' : List Addr} {j : Nat} {d : D} {x : V} (hj : j < ds.length) (hl : vs.length = ds.length) (hx : vs[j]? = some x) (h1 : RdsL G H (ds.take j) (vs.take j) A) (h2 : Rds G H d x B) (h3 : RdsL G H (ds.drop (j + 1)) (vs.drop (j + 1)) C') : RdsL G H (ds.set j d) vs (A ++ (B ++ C')) := by
  have e1 : ds.set j d = ds.take j ++ d :: ds.drop (j + 1) := by
    rw [List.set_eq_take_append_cons_drop, if_pos hj]
  have e2 : vs = vs.take j ++ x :: vs.drop (j + 1) := by
    have hj' : j < vs.length := by omega
    rw [List.getElem?_eq_getElem hj'] at hx
    cases hx
    rw [List.getElem_cons_drop, List.take_append_drop]
  rw [e1]
  rw [e2]
  have e3 : (List.take j vs ++ x :: List.drop (j + 1) vs).take j = List.take j vs := by rw [← e2]
  exact rdsL_app h1 (rdsL_cons.mpr ⟨x, _, B, C', rfl, rfl, h2, h3⟩)
theorem rds_objI {H : Hp} {c : Nat} {ns : List Str} {ds : List D} {v : V} {F : List Addr} : Rds G H (.obj c ns ds) v F ↔ ∃ a dx us A, v = .ref a ∧ H a = some (.ins (G.cls c) dx us) ∧ us.map (·.1) = ns ∧ RdsL G H ds (us.map (·.2)) A ∧ F = a :: A := by
  unfold Rds
  exact Iff.rfl
theorem foc_rds : ∀ {p : List Pst} {d : D} {v : V} {F : List Addr} {sd : D} {sv : V} {P A S : List Addr}, Foc G H p d v F sd sv P A S → F = P ++ (A ++ S) ∧ Rds G H sd sv A
  | [], _, _, _, _, _, _, _, _, h => by
    obtain ⟨rfl, rfl, rfl, rfl, rfl, h⟩ := h
    exact ⟨by simp, h⟩
  | i :: p, _, _, _, _, _, _, _, _, h => by
    obtain ⟨a, xs, ds, j, d1, x1, A1, A2, A3, P', S', Q, rfl, h1, h2, h3, h4, h5, h6, h7, rfl, rfl, rfl⟩ := h
    obtain ⟨rfl, h8⟩ := foc_rds h7
    exact ⟨by simp [List.append_assoc], h8⟩
theorem foc_of : ∀ {p : List Pst} {d : D} {v : V} {F : List Addr} {sd : D}, Rds G H d v F → getP p d = some sd → ∃ sv P A S, Foc G H p d v F sd sv P A S
  | [], d, v, F, sd, r, e => by
    cases e
    exact ⟨v, [], F, [], rfl, rfl, rfl, rfl, rfl, r⟩
  | .ix i :: p, .lst ds, v, F, sd, r, e => by
    obtain ⟨a, xs, A, rfl, h1, h2, rfl⟩ := rds_lst.mp r
    have e : (atI ds i).bind (getP p) = some sd := e
    unfold atI at e
    cases h : ixN ds.length i with
    | none => rw [h] at e; cases e
    | some j =>
      rw [h] at e
      have e : (ds[j]?).bind (getP p) = some sd := e
      cases h3 : ds[j]? with
      | none => rw [h3] at e; cases e
      | some d1 =>
        rw [h3] at e
        obtain ⟨x1, A1, A2, A3, g1, g2, g3, g4, rfl⟩ := rdsL_split h2 h3
        obtain ⟨sv, P', A', S', g5⟩ := foc_of g3 (show getP p d1 = some sd from e)
        exact ⟨sv, _, A', _, a, xs, ds, j, d1, x1, A1, A2, A3, P', S', [a], rfl, .inl ⟨rfl, h1, rfl, rfl⟩, h, h3, g1, g2, g4, g5, rfl, rfl, rfl⟩
  | .ix i :: p, .tup ds, v, F, sd, r, e => by
    obtain ⟨a, xs, rfl, h1, h2⟩ := rds_tup.mp r
    have e : (atI ds i).bind (getP p) = some sd := e
    unfold atI at e
    cases h : ixN ds.length i with
    | none => rw [h] at e; cases e
    | some j =>
      rw [h] at e
      have e : (ds[j]?).bind (getP p) = some sd := e
      cases h3 : ds[j]? with
      | none => rw [h3] at e; cases e
      | some d1 =>
        rw [h3] at e
        obtain ⟨x1, A1, A2, A3, g1, g2, g3, g4, rfl⟩ := rdsL_split h2 h3
        obtain ⟨sv, P', A', S', g5⟩ := foc_of g3 (show getP p d1 = some sd from e)
        exact ⟨sv, _, A', _, a, xs, ds, j, d1, x1, A1, A2, A3, P', S', [], rfl, .inr (.inl ⟨rfl, h1, rfl, rfl⟩), h, h3, g1, g2, g4, g5, rfl, rfl, rfl⟩
  | .fl j :: p, .obj c ns ds, v, F, sd, r, e => by
    obtain ⟨a, dx, us, A, rfl, h1, h2, h5, rfl⟩ := rds_objI.mp r
    have e : (ds[j]?).bind (getP p) = some sd := e
    cases h3 : ds[j]? with
    | none => rw [h3] at e; cases e
    | some d1 =>
      rw [h3] at e
      obtain ⟨x1, A1, A2, A3, g1, g2, g3, g4, rfl⟩ := rdsL_split h5 h3
      obtain ⟨sv, P', A', S', g5⟩ := foc_of g3 (show getP p d1 = some sd from e)
      exact ⟨sv, _, A', _, a, _, ds, j, d1, x1, A1, A2, A3, P', S', [a], rfl, .inr (.inr ⟨c, ns, dx, us, rfl, h1, h2, rfl, rfl, rfl⟩), rfl, h3, g1, g2, g4, g5, rfl, rfl, rfl⟩
  | .ix _ :: _, .non, _, _, _, _, e => by cases e
  | .fl _ :: _, .non, _, _, _, _, e => by cases e
  | .ix _ :: _, .bl _, _, _, _, _, e => by cases e
  | .fl _ :: _, .bl _, _, _, _, _, e => by cases e
  | .ix _ :: _, .int _, _, _, _, _, e => by cases e
  | .fl _ :: _, .int _, _, _, _, _, e => by cases e
  | .ix _ :: _, .str _, _, _, _, _, e => by cases e
  | .fl _ :: _, .str _, _, _, _, _, e => by cases e
  | .ix _ :: _, .dct _ _, _, _, _, _, e => by cases e
  | .fl _ :: _, .dct _ _, _, _, _, _, e => by cases e
  | .ix _ :: _, .scr _, _, _, _, _, e => by cases e
  | .fl _ :: _, .scr _, _, _, _, _, e => by cases e
  | .ix _ :: _, .any, _, _, _, _, e => by cases e
  | .fl _ :: _, .any, _, _, _, _, e => by cases e
  | .ix _ :: _, .exn _ _ _, _, _, _, _, e => by cases e
  | .fl _ :: _, .exn _ _ _, _, _, _, _, e => by cases e
  | .ix _ :: _, .obj _ _ _, _, _, _, _, e => by cases e
  | .fl _ :: _, .lst _, _, _, _, _, e => by cases e
  | .fl _ :: _, .tup _, _, _, _, _, e => by cases e
theorem foc_ext {i : Int} : ∀ {p : List Pst} {d : D} {v : V} {F : List Addr} {sd d1 : D} {sv : V} {P A S : List Addr}, Foc G H p d v F sd sv P A S → getP [.ix i] sd = some d1 → ∃ x1 P' A' S', Foc G H (p ++ [.ix i]) d v F d1 x1 P' A' S' ∧ ∃ a xs, sv = .ref a ∧ atI xs i = some x1 ∧ ((∃ ds, sd = .lst ds ∧ H a = some (.lst xs)) ∨ ∃ ds, sd = .tup ds ∧ SqT G.K H a xs)
  | [], d, v, F, sd, d1, sv, P, A, S, h, e => by
    obtain ⟨rfl, rfl, rfl, rfl, rfl, r⟩ := h
    obtain ⟨x1, P', A', S', h1⟩ := foc_of r e
    refine ⟨x1, P', A', S', h1, ?_⟩
    obtain ⟨a, xs, ds, j, d2, x2, A1, A2, A3, P2, S2, Q, rfl, g1, g2, g3, g4, g5, g6, g7, _, _, _⟩ := h1
    obtain ⟨rfl, rfl, _⟩ := g7
    have hl : xs.length = ds.length := by
      have z1 := rdsL_len g5
      have z2 := rdsL_len g6
      rw [List.length_take, List.length_take] at z1
      rw [List.length_drop, List.length_drop] at z2
      have z3 := (List.getElem?_eq_some_iff.mp g3).1
      have z4 := (List.getElem?_eq_some_iff.mp g4).1
      omega
    have g2 : ixN ds.length i = some j := g2
    refine ⟨a, xs, rfl, ?_, ?_⟩
    · unfold atI
      rw [hl, g2]
      exact g4
    · rcases g1 with ⟨rfl, g1, _⟩ | ⟨rfl, g1, _⟩ | ⟨_, _, _, _, _, _, _, _, _, z⟩
      · exact .inl ⟨ds, rfl, g1⟩
      · exact .inr ⟨ds, rfl, g1⟩
      · cases z
  | i' :: p, d, v, F, sd, d1, sv, P, A, S, h, e => by
    obtain ⟨a, xs, ds, j, d2, x2, A1, A2, A3, P2, S2, Q, rfl, g1, g2, g3, g4, g5, g6, g7, rfl, rfl, rfl⟩ := h
    obtain ⟨x1, P', A', S', h1, h2⟩ := foc_ext g7 e
    exact ⟨x1, _, A', _, ⟨a, xs, ds, j, d2, x2, A1, A2, A3, P', S', Q, rfl, g1, g2, g3, g4, g5, g6, h1, rfl, rfl, rfl⟩, h2⟩
theorem Foc.chg {M : Addr → Prop} (c : Chg M H H') : ∀ {p : List Pst} {d : D} {v : V} {F : List Addr} {sd : D} {sv : V} {P A S : List Addr}, (∀ a ∈ F, ¬ M a) → Foc G H p d v F sd sv P A S → Foc G H' p d v F sd sv P A S
  | [], _, _, _, _, _, _, _, _, n, h => by
    obtain ⟨rfl, rfl, rfl, rfl, rfl, h⟩ := h
    exact ⟨rfl, rfl, rfl, rfl, rfl, Rds.chg c _ _ _ n h⟩
  | i :: p, _, _, _, _, _, _, _, _, n, h => by
    obtain ⟨a, xs, ds, j, d1, x1, A1, A2, A3, P', S', Q, rfl, h1, h2, h3, h4, h5, h6, h7, rfl, rfl, rfl⟩ := h
    refine ⟨a, xs, ds, j, d1, x1, A1, A2, A3, P', S', Q, rfl, ?_, h2, h3, h4, RdsL.chg c _ _ _ (fun b hb => n b (by simp [hb])) h5, RdsL.chg c _ _ _ (fun b hb => n b (by simp [hb])) h6, Foc.chg c (fun b hb => n b (by simp [hb])) h7, rfl, rfl, rfl⟩
    rcases h1 with ⟨h1, h8, h9, h10⟩ | ⟨h1, h8, h9⟩ | ⟨c', ns, dx, us, h1, h8, h11, h12, h9, h10⟩
    · subst h9
      exact .inl ⟨h1, c.keep h8 rfl (n a (by simp)), rfl, h10⟩
    · exact .inr (.inl ⟨h1, SqT.chg c h8, h9⟩)
    · subst h9
      exact .inr (.inr ⟨c', ns, dx, us, h1, c.keep h8 rfl (n a (by simp)), h11, h12, rfl, h10⟩)
theorem foc_set : ∀ {p : List Pst} {d : D} {v : V} {F : List Addr} {sd sd' d' : D} {sv : V} {P A S A' : List Addr}, Foc G H p d v F sd sv P A S → F.Nodup → Chg (fun a => a ∈ A) H H' → Rds G H' sd' sv A' → setP p d sd' = some d' → Rds G H' d' v (P ++ (A' ++ S))
  | [], _, _, _, _, _, _, _, _, _, _, _, h, _, _, r, e => by
    obtain ⟨rfl, rfl, rfl, rfl, rfl, h⟩ := h
    cases e
    simpa using r
  | i :: p, d, v, F, sd, sd', d', sv, P, A, S, A', h, nd, c, r, e => by
    obtain ⟨a, xs, ds, j, d1, x1, A1, A2, A3, P', S', Q, rfl, h1, h2, h3, h4, h5, h6, h7, rfl, rfl, rfl⟩ := h
    obtain ⟨eA, _⟩ := foc_rds h7
    have nd2 : A2.Nodup := by
      refine List.Sublist.nodup ?_ nd
      exact (List.sublist_append_left A2 A3).trans ((List.sublist_append_right A1 _).trans (List.sublist_append_right Q _))
    have hjl : j < ds.length := (List.getElem?_eq_some_iff.mp h3).1
    have hl : xs.length = ds.length := by
      have z1 := rdsL_len h5
      have z2 := rdsL_len h6
      rw [List.length_take, List.length_take] at z1
      rw [List.length_drop, List.length_drop] at z2
      have z4 := (List.getElem?_eq_some_iff.mp h4).1
      omega
    have inA2 : ∀ z ∈ A, z ∈ A2 := fun z hz => by rw [eA]; simp [hz]
    rw [List.nodup_append] at nd
    obtain ⟨_, nd3, ndQ⟩ := nd
    rw [List.nodup_append] at nd3
    obtain ⟨_, nd4, nd1⟩ := nd3
    rw [List.nodup_append] at nd4
    have r1 : RdsL G H' (ds.take j) (xs.take j) A1 := RdsL.chg c _ _ _ (fun z hz hA => nd1 z hz z (by simp [inA2 z hA]) rfl) h5
    have r3 : RdsL G H' (ds.drop (j + 1)) (xs.drop (j + 1)) A3 := RdsL.chg c _ _ _ (fun z hz hA => nd4.2.2 z (inA2 z hA) z hz rfl) h6
    have go : ∀ {d2}, setP p d1 sd' = some d2 → RdsL G H' (ds.set j d2) xs (A1 ++ ((P' ++ (A' ++ S')) ++ A3)) := fun {d2} e2 => rdsL_join hjl hl h4 r1 (foc_set h7 nd2 c r e2) r3
    rcases h1 with ⟨rfl, h8, rfl, hi⟩ | ⟨rfl, h8, rfl, hi⟩ | ⟨c', ns, dx, us, rfl, h8, h11, rfl, rfl, hi⟩
    · obtain ⟨i, rfl⟩ : ∃ q, i = .ix q := by cases i <;> first | exact ⟨_, rfl⟩ | cases hi
      have h2 : ixN ds.length i = some j := h2
      have e : (ixN ds.length i).bind (fun j => (ds[j]?).bind fun d1 => (setP p d1 sd').map fun d2 => D.lst (ds.set j d2)) = some d' := e
      rw [h2] at e
      have e : (ds[j]?).bind (fun d1 => (setP p d1 sd').map fun d2 => D.lst (ds.set j d2)) = some d' := e
      rw [h3] at e
      have e : (setP p d1 sd').map (fun d2 => D.lst (ds.set j d2)) = some d' := e
      cases e2 : setP p d1 sd' with
      | none => rw [e2] at e; cases e
      | some d2 =>
        rw [e2] at e
        cases e
        refine rds_lst.mpr ⟨a, xs, _, rfl, c.keep h8 rfl (fun hA => ndQ a (by simp) a (by simp [inA2 a hA]) rfl), go e2, ?_⟩
        simp [List.append_assoc]
    · obtain ⟨i, rfl⟩ : ∃ q, i = .ix q := by cases i <;> first | exact ⟨_, rfl⟩ | cases hi
      have h2 : ixN ds.length i = some j := h2
      have e : (ixN ds.length i).bind (fun j => (ds[j]?).bind fun d1 => (setP p d1 sd').map fun d2 => D.tup (ds.set j d2)) = some d' := e
      rw [h2] at e
      have e : (ds[j]?).bind (fun d1 => (setP p d1 sd').map fun d2 => D.tup (ds.set j d2)) = some d' := e
      rw [h3] at e
      have e : (setP p d1 sd').map (fun d2 => D.tup (ds.set j d2)) = some d' := e
      cases e2 : setP p d1 sd' with
      | none => rw [e2] at e; cases e
      | some d2 =>
        rw [e2] at e
        cases e
        refine rds_tup.mpr ⟨a, xs, rfl, SqT.chg c h8, ?_⟩
        have z := go e2
        simpa [List.append_assoc] using z
    · obtain ⟨i, rfl⟩ : ∃ q, i = .fl q := by cases i <;> first | exact ⟨_, rfl⟩ | cases hi
      cases h2
      have e : (ds[j]?).bind (fun d1 => (setP p d1 sd').map fun d2 => D.obj c' ns (ds.set j d2)) = some d' := e
      rw [h3] at e
      have e : (setP p d1 sd').map (fun d2 => D.obj c' ns (ds.set j d2)) = some d' := e
      cases e2 : setP p d1 sd' with
      | none => rw [e2] at e; cases e
      | some d2 =>
        rw [e2] at e
        cases e
        refine rds_objI.mpr ⟨a, dx, us, _, rfl, c.keep h8 rfl (fun hA => ndQ a (by simp) a (by simp [inA2 a hA]) rfl), h11, go e2, ?_⟩
        simp [List.append_assoc]
end
end
end VL
set_option maxHeartbeats 4000000
namespace VL
noncomputable section
open PySem PySem.Spec PyProof.Rows L2
open GxR (TabB Tabbed)
variable [LamT]
section
variable {G : Gb} {C : Ctx} {H H' : Hp} {σ : L2.St} {E : Env} {Fs : Nat → List Addr} {i : Nat} {m : Mode} {d d' : D} {v : V} {F' : List Addr}
theorem Rel.write (R : Rel G C H σ E Fs) (e : E[i]? = some (some (m, d))) (hw : m.w = true) (hv : σ[i]? = some (some v)) (c : Chg (fun a => a ∈ Fs i) H H') (rd : Rds G H' d' v F') (nd : F'.Nodup)
    (hF : ∀ a ∈ F', a ∈ Fs i ∨ (C.H0 a = none ∧ ¬ C.T a ∧ ∀ j, j ≠ i → Asg E j → a ∉ Fs j)) : Rel G C H' σ (E.set i (some (m, d'))) (FsSet Fs i F') := by
  have hi := (List.getElem?_eq_some_iff.mp e).1
  obtain ⟨n1, n2, n3⟩ := R.nd i m d e hw
  have gi : (E.set i (some (m, d')))[i]? = some (some (m, d')) := List.getElem?_set_self hi
  have gj : ∀ {j}, j ≠ i → (E.set i (some (m, d')))[j]? = E[j]? := fun {j} h => List.getElem?_set_ne (Ne.symm h)
  refine ⟨by rw [List.length_set]; exact R.len, fun j mj dj ej => ?_, fun j mj dj ej hwj => ?_, fun j mj dj ej => ?_, ?_, ?_, R.pt, fun T hT => c.tab (R.tb T hT), fun j dj ej => ?_⟩
  · by_cases h : j = i
    · subst h
      rw [gi] at ej
      cases ej
      refine ⟨v, hv, by rw [FsSet_self]; exact rd, fun z => ?_⟩
      obtain ⟨v2, h1, _, h2⟩ := R.rd j _ _ e
      rw [hv] at h1
      cases h1
      exact h2 z
    · rw [gj h] at ej
      obtain ⟨v2, h1, h2, h3⟩ := R.rd j mj dj ej
      exact ⟨v2, h1, by rw [FsSet, if_neg h]; exact Rds.chg c _ _ _ (fun a ha hm => n3 j mj dj h ej a hm ha) h2, h3⟩
  · by_cases h : j = i
    · subst h
      rw [FsSet_self]
      refine ⟨nd, fun a ha hT => ?_, fun l ml dl hl el a ha hb => ?_⟩
      · rcases hF a ha with z | z
        · exact n2 a z hT
        · exact z.2.1 hT
      · rw [gj hl] at el
        rw [FsSet, if_neg hl] at hb
        rcases hF a ha with z | z
        · exact n3 l ml dl hl el a z hb
        · exact z.2.2 l hl ⟨ml, dl, el⟩ hb
    · rw [gj h] at ej
      obtain ⟨h1, h2, h3⟩ := R.nd j mj dj ej hwj
      rw [FsSet, if_neg h]
      refine ⟨h1, h2, fun l ml dl hl el a ha hb => ?_⟩
      by_cases h' : l = i
      · subst h'
        rw [FsSet_self] at hb
        rcases hF a hb with z | z
        · exact h3 l m d hl e a ha z
        · exact z.2.2 j h ⟨mj, dj, ej⟩ ha
      · rw [gj h'] at el
        rw [FsSet, if_neg h'] at hb
        exact h3 l ml dl hl el a ha hb
  · by_cases h : j = i
    · subst h
      rw [gi] at ej
      cases ej
      rw [FsSet_self]
      obtain ⟨h1, h2⟩ := R.nw j _ _ e
      refine ⟨fun z a ha => ?_, fun z a ha => ?_⟩
      · rcases hF a ha with y | y
        · exact h1 z a y
        · exact y.1
      · rcases hF a ha with y | y
        · exact h2 z a y
        · exact .inr y.1
    · rw [gj h] at ej
      rw [FsSet, if_neg h]
      exact R.nw j mj dj ej
  · refine (R.fr.trans c).mono fun q o eo h => ?_
    rcases h with h | h
    · exact h
    · obtain ⟨h1, h2⟩ := R.nw i _ _ e
      cases m with
      | own =>
        rw [h1 rfl q h] at eo
        cases eo
      | io =>
        rcases h2 rfl q h with z | z
        · exact ⟨i, z⟩
        · rw [z] at eo
          cases eo
      | arg => cases hw
      | shr => cases hw
      | tip => cases hw
  · refine (R.pr.trans c).mono fun q o eo h => ?_
    rcases h with h | h
    · exact h
    · exact n2 q h
  · have hji : j ≠ i := fun z => by
      subst z
      rw [gi] at ej
      cases ej
      cases hw
    rw [gj hji] at ej
    obtain ⟨a, r, e1, e2, e3, e4, e5⟩ := R.tp j dj ej
    refine ⟨a, r, by rw [FsSet, if_neg hji]; exact e1, e2, e3, e4, fun l ml dl hl el hb => ?_⟩
    by_cases h' : l = i
    · subst h'
      rw [FsSet_self] at hb
      rcases hF a hb with z | z
      · exact e5 l m d hl e z
      · exact z.2.2 j hji ⟨_, _, ej⟩ (by rw [e1]; exact List.mem_cons_self)
    · rw [gj h'] at el
      rw [FsSet, if_neg h'] at hb
      exact e5 l ml dl hl el hb
theorem Stp.write (e : E[i]? = some (some (m, d))) (hw : m.w = true) (c : Chg (fun a => a ∈ Fs i) H H') (hF : ∀ a ∈ F', a ∈ Fs i ∨ H a = none) : Stp [i] H H' E (E.set i (some (m, d'))) Fs (FsSet Fs i F') where
  chg := c.mono fun q o _ h => ⟨i, List.mem_singleton.mpr rfl, m, d, e, hw, h⟩
  fs := fun j hj => if_neg fun z => hj (by rw [z]; exact List.mem_singleton.mpr rfl)
  gr := fun j a ha => by
    by_cases h : j = i
    · subst h
      rw [FsSet_self] at ha
      exact hF a ha
    · rw [FsSet, if_neg h] at ha
      exact .inl ha
  env := fun j hj => List.getElem?_set_ne fun z => hj (by rw [z]; exact List.mem_singleton.mpr rfl)
  md := fun j => by
    by_cases h : j = i
    · subst h
      rw [List.getElem?_set_self (List.getElem?_eq_some_iff.mp e).1, e]
      exact ⟨fun m' d2 z => by cases z; exact ⟨_, rfl⟩, fun m' d2 z => by cases z; exact ⟨_, rfl⟩⟩
    · rw [List.getElem?_set_ne (Ne.symm h)]
      exact ⟨fun m' d2 z => ⟨d2, z⟩, fun m' d2 z => ⟨d2, z⟩⟩
  tf := fun j d2 ej => if_neg fun z => by
    subst z
    rw [e] at ej
    cases ej
    cases hw
end
abbrev PF := Env → Option (List Pst × Env)
def tVP (G : Gb) (M : List Nat) (i : Nat) (pf : PF) : TE := fun σ H Q => ∃ C E Fs, Rel G C H σ E Fs ∧ ∃ p E', pf E = some (p, E') ∧ (∃ m d sd, E'[i]? = some (some (m, d)) ∧ getP p d = some sd) ∧
  ∀ H' Fs' m d v sd sv P A S, Rel G C H' σ E' Fs' → Stp M H H' E E' Fs Fs' → E'[i]? = some (some (m, d)) → σ[i]? = some (some v) → Foc G H' p d v (Fs' i) sd sv P A S → Q sv H'
abbrev VP (G : Gb) (X : Cx) (e : Expr) (M : List Nat) (i : Nat) (pf : PF) : Prop := PE X e (tVP G M i pf)
def pName (i : Nat) : PF := fun E => match E[i]? with
  | some (some _) => some ([], E)
  | _ => none
def hasP (E : Env) (i : Nat) (p : List Pst) : Bool := match E[i]? with
  | some (some (_, d)) => (getP p d).isSome
  | _ => false
def pSub1 (i : Nat) (pf : PF) (f : EF) : PF := fun E => match pf E with
  | some (p, E1) => if hasP E1 i p then (match f E1 with
    | some (.int j, E2) => if hasP E2 i (p ++ [.ix j]) then some (p ++ [.ix j], E2) else none
    | _ => none) else none
  | none => none
theorem hasP_of {E : Env} {i : Nat} {p : List Pst} (h : hasP E i p = true) : ∃ m d sd, E[i]? = some (some (m, d)) ∧ getP p d = some sd := by
  unfold hasP at h
  split at h
  · rename_i m d e
    obtain ⟨sd, hs⟩ := Option.isSome_iff_exists.mp h
    exact ⟨m, d, sd, e, hs⟩
  · cases h
section
variable {G : Gb} {X : Cx} {e b : Expr} {M M' : List Nat} {i : Nat} {k : Kind} {pf : PF} {f : EF} {pos : Pos}
theorem vp_name (h : PE X e (tVar i)) : VP G X e [] i (pName i) := PE.imp h fun σ H Q ⟨C, E, Fs, R, p, E', e, ⟨m, d, sd, e1, e2⟩, q⟩ => by
  unfold pName at e
  split at e
  · cases e
    obtain ⟨v, h1, h2, _⟩ := R.rd i m d e1
    obtain ⟨sv, P, A, S, h3⟩ := foc_of h2 e2
    have h4 := h3
    obtain ⟨_, rfl, _⟩ := h3
    exact ⟨sv, h1, q H Fs m d sv sd sv P A S R Stp.refl e1 h1 h4⟩
  · cases e
theorem getP_app {s : Pst} : ∀ {p : List Pst} {d sd : D}, getP (p ++ [s]) d = some sd → ∃ d1, getP p d = some d1 ∧ getP [s] d1 = some sd
  | [], d, sd, h => ⟨d, rfl, h⟩
  | i :: p, d, sd, h => by
    have key : ∀ d1 : D, (∀ q, getP (i :: q) d = getP q d1) → ∃ d1, getP (i :: p) d = some d1 ∧ getP [s] d1 = some sd := fun d1 hq => by
      have h : getP (i :: (p ++ [s])) d = some sd := h
      rw [hq] at h
      obtain ⟨d2, h1, h2⟩ := getP_app h
      exact ⟨d2, by rw [hq]; exact h1, h2⟩
    cases i with
    | ix i =>
      cases d with
      | lst ds =>
        cases e : atI ds i with
        | none =>
          have h : (atI ds i).bind (getP (p ++ [s])) = some sd := h
          rw [e] at h; cases h
        | some d1 => exact key d1 fun q => by show (atI ds i).bind (getP q) = _; rw [e]; rfl
      | tup ds =>
        cases e : atI ds i with
        | none =>
          have h : (atI ds i).bind (getP (p ++ [s])) = some sd := h
          rw [e] at h; cases h
        | some d1 => exact key d1 fun q => by show (atI ds i).bind (getP q) = _; rw [e]; rfl
      | _ => cases h
    | fl j =>
      cases d with
      | obj c ns ds =>
        cases e : ds[j]? with
        | none =>
          have h : (ds[j]?).bind (getP (p ++ [s])) = some sd := h
          rw [e] at h; cases h
        | some d1 => exact key d1 fun q => by show (ds[j]?).bind (getP q) = _; rw [e]; rfl
      | _ => cases h
theorem foc_det : ∀ {H : Hp} {p : List Pst} {d : D} {v : V} {F : List Addr} {sd : D} {sv : V} {P A S : List Addr}, Foc G H p d v F sd sv P A S → getP p d = some sd
  | H, [], _, _, _, _, _, _, _, _, h => by
    obtain ⟨rfl, _⟩ := h
    rfl
  | H, i :: p, _, _, _, _, _, _, _, _, h => by
    obtain ⟨a, xs, ds, j, d1, x1, A1, A2, A3, P', S', Q, rfl, h1, h2, h3, h4, h5, h6, h7, _⟩ := h
    have z := foc_det h7
    rcases h1 with ⟨rfl, _, _, hi⟩ | ⟨rfl, _, _, hi⟩ | ⟨c', ns, dx, us, rfl, _, _, _, _, hi⟩
    · obtain ⟨i, rfl⟩ : ∃ q, i = .ix q := by cases i <;> first | exact ⟨_, rfl⟩ | cases hi
      have h2 : ixN ds.length i = some j := h2
      show (atI ds i).bind (getP p) = _
      unfold atI
      rw [h2]
      show ((ds[j]?).bind (getP p)) = _
      rw [h3]
      exact z
    · obtain ⟨i, rfl⟩ : ∃ q, i = .ix q := by cases i <;> first | exact ⟨_, rfl⟩ | cases hi
      have h2 : ixN ds.length i = some j := h2
      show (atI ds i).bind (getP p) = _
      unfold atI
      rw [h2]
      show ((ds[j]?).bind (getP p)) = _
      rw [h3]
      exact z
    · obtain ⟨i, rfl⟩ : ∃ q, i = .fl q := by cases i <;> first | exact ⟨_, rfl⟩ | cases hi
      cases h2
      show ((ds[j]?).bind (getP p)) = _
      rw [h3]
      exact z
theorem vp_sub (x : XOk G X) (h : VP G X e M i pf) (hb : VE G X b M' k f) (hi : (!M'.contains i) = true := by rfl) (hs : PlainIx b := by intro _ _; rfl) : VP G X (.Subscript e b pos) (M ++ M') i (pSub1 i pf f) := PE.imp (pe_ix (ix_all x) h hb hs) fun σ H Q ⟨C, E, Fs, R, p, E', e, ⟨m0, d0, sd0, e01, e02⟩, q⟩ => by
  have hi' : i ∉ M' := by simpa using hi
  unfold pSub1 at e
  split at e
  · rename_i p1 E1 e1
    split at e
    · rename_i hh
      split at e
      · rename_i j E2 e2
        split at e
        · cases e
          obtain ⟨s, g1, g2⟩ := getP_app e02
          refine ⟨C, E, Fs, R, p1, E1, e1, hasP_of hh, fun H1 Fs1 m d v sd sv P A S R1 s1 em ev hf => ?_⟩
          refine ⟨C, E1, Fs1, R1, _, _, e2, fun y H2 Fs2 F R2 s2 r2 k2 => ?_⟩
          have em2 : E'[i]? = some (some (m, d)) := by rw [s2.env i hi']; exact em
          have ed : d0 = d := by
            rw [em2] at e01
            cases e01
            rfl
          have fs2 := s2.fs i hi'
          have ap : ∀ a ∈ Fs1 i, ¬ ∃ j ∈ M', ∃ m d, E1[j]? = some (some (m, d)) ∧ m.w = true ∧ a ∈ Fs1 j := fun a ha ⟨l, hl, ml, dl, h1, h2, h3⟩ => (R1.nd l ml dl h1 h2).2.2 i m d (fun z => hi' (by rw [z]; exact hl)) em a h3 ha
          have hf2 := Foc.chg s2.chg ap hf
          have es := foc_det hf
          rw [ed] at g1
          rw [g1] at es
          have es : s = sd := Option.some.inj es
          rw [es] at g2
          obtain ⟨x1, P', A', S', h1, a, xs, rfl, h2, h3⟩ := foc_ext hf2 g2
          rw [(rds_int.mp r2).1]
          have fin := q H2 Fs2 m d v sd0 x1 P' A' S' R2 (s1.trans s2) em2 ev (by rw [fs2]; exact h1)
          rw [x.K]
          rcases h3 with ⟨ds, rfl, h3⟩ | ⟨ds, rfl, h3⟩
          · exact .inl (.inl ⟨a, xs, j, x1, rfl, rfl, SqL.of h3, h2, fin⟩)
          · exact .inl (.inr (.inl ⟨a, xs, j, x1, rfl, rfl, h3, h2, fin⟩))
        · cases e
      · cases e
    · cases e
  · cases e
end
end
end VL
set_option maxHeartbeats 4000000
namespace VL
noncomputable section
open PySem PySem.Spec PyProof.Rows L2
open GxR (TabB Tabbed)
variable [LamT]
def storable (k : Kind) (d : D) : Bool := d.atom || match k with
  | .own => true
  | .top _ => d.flat
  | _ => false
def storL : List Kind → List D → Bool
  | [k], [d] => storable k d
  | _ :: ks, d :: ds => d.atom && storL ks ds
  | [], [] => true
  | _, _ => false
abbrev OPD := D → List D → Option (D × D)
def MutOk (G : Gb) (r : V → List V → Hp → VK → Prop) (op : OPD) : Prop := ∀ (H : Hp) (sd : D) (sv : V) (A : List Addr) (ds : List D) (vs : List V) (B : List Addr) (Q : VK) (sd' res : D), Rds G H sd sv A → RdsL G H ds vs B → A.Nodup → B.Nodup → (∀ a ∈ A, a ∉ B) → op sd ds = some (sd', res) → res.atom = true →
  (∀ v H' A', Rds G H' sd' sv A' → Rds G H' res v [] → A'.Nodup → (∀ a ∈ A', a ∈ A ∨ a ∈ B) → Chg (fun a => a ∈ A) H H' → Q v H') → r sv vs H Q
def tyD (T : String) : D → Bool
  | .lst _ => T == "list"
  | .dct _ _ => T == "dict"
  | _ => false
theorem tyV_of {G : Gb} {H : Hp} {T : String} {d : D} {v : V} {A : List Addr} (r : Rds G H d v A) (h : tyD T d = true) : tyV G.K T v H := by
  cases d <;> unfold tyD at h <;> first | cases h | skip
  · obtain ⟨a, xs, A', rfl, h1, _⟩ := rds_lst.mp r
    exact .inl ⟨by simpa using h, xs, SqL.of h1⟩
  · obtain ⟨a, us, A', rfl, h1, _⟩ := rds_dct.mp r
    exact .inr (.inr (.inl ⟨by simpa using h, .inl ⟨us, h1⟩⟩))
def hasT (T : String) (E : Env) (i : Nat) (p : List Pst) : Bool := match E[i]? with
  | some (some (_, d)) => (match getP p d with
    | some sd => tyD T sd
    | none => false)
  | _ => false
theorem hasT_of {T : String} {E : Env} {i : Nat} {p : List Pst} (h : hasT T E i p = true) : ∃ m d sd, E[i]? = some (some (m, d)) ∧ getP p d = some sd ∧ tyD T sd = true := by
  unfold hasT at h
  split at h
  · rename_i m d e
    split at h
    · rename_i sd e2
      exact ⟨m, d, sd, e, e2, h⟩
    · cases h
  · cases h
def eMut (T : String) (i : Nat) (pf : PF) (ks : List Kind) (l : LF) (op : OPD) : EF := fun E => match pf E with
  | some (p, E1) => if hasT T E1 i p then (match l E1 with
    | some (ds, E2) => if storL ks ds then (match E2[i]? with
      | some (some (m, d)) => if m.w then (match getP p d with
        | some sd => (match op sd ds with
          | some (sd', res) => if res.atom then (match setP p d sd' with
            | some d' => some (res, E2.set i (some (m, d')))
            | none => none) else none
          | none => none)
        | none => none) else none
      | _ => none) else none
    | none => none) else none
  | none => none
section
variable {G : Gb} {σ : L2.St} {H H1 : Hp} {E : Env} {Fs : Nat → List Addr}
theorem storL_ok {C : Ctx} : ∀ {ks : List Kind} {ds : List D} {vs : List V} {FF : List (List Addr)}, storL ks ds = true → ArgsOk G σ H H1 E Fs ks ds vs FF → FF.flatten.Nodup ∧ ∀ a ∈ FF.flatten, Loose H E Fs a
  | [], _, _, _, _, h => by
    obtain ⟨rfl, rfl, rfl⟩ := h
    exact ⟨List.nodup_nil, fun a ha => by cases ha⟩
  | [k], _, _, _, hs, h => by
    obtain ⟨d, ds', v, vs', F, FF', rfl, rfl, rfl, h4, h5, h6, rfl, rfl, rfl⟩ := h
    have hs : storable k d = true := hs
    unfold storable at hs
    rw [Bool.or_eq_true] at hs
    simp only [List.flatten_cons, List.flatten_nil, List.append_nil]
    rcases hs with hs | hs
    · rw [Rds.atom _ _ _ hs h4]
      exact ⟨List.nodup_nil, fun a ha => by cases ha⟩
    · cases k with
      | own => exact ⟨h5.1, fun a ha => (h5.2 a ha).elim (fun ⟨_, z, _⟩ => by cases z) id⟩
      | top S =>
        obtain ⟨a, rfl, hn⟩ := flat_one hs h4
        refine ⟨by simp, fun b hb => ?_⟩
        rw [List.mem_singleton.mp hb]
        exact h5.2 a [] hn rfl
      | sub i => cases hs
      | vw S => cases hs
      | ref i => cases hs
  | k :: k2 :: ks, _, _, _, hs, h => by
    obtain ⟨d, ds', v, vs', F, FF', rfl, rfl, rfl, h4, h5, h6, h7⟩ := h
    have hs : (d.atom && storL (k2 :: ks) ds') = true := by
      cases ds' with
      | nil =>
        obtain ⟨d2, _, _, _, _, _, z, _⟩ := h7
        cases z
      | cons d2 ds2 => exact hs
    rw [Bool.and_eq_true] at hs
    rw [List.flatten_cons, Rds.atom _ _ _ hs.1 h4, List.nil_append]
    exact storL_ok (C := C) hs.2 h7
end
section
variable {G : Gb} {X : Cx} {o e : Expr} {es : List Expr} {M M' : List Nat} {i : Nat} {ks : List Kind} {pf : PF} {l : LF} {op : OPD} {r : V → List V → Hp → VK → Prop}
theorem mut_of {T : String} {σ : L2.St} {H : Hp} {Q : VK} (P : MutOk G r op) (hi : i ∉ M') (h : tV G (M ++ (M' ++ [i])) .own (eMut T i pf ks l op) σ H Q) :
    tVP G M i pf σ H fun x H1 => tyV G.K T x H1 ∧ tVL G M' ks l σ H1 fun xs H2 => r x xs H2 Q := by
  obtain ⟨C, E, Fs, R, d, E', e, q⟩ := h
  unfold eMut at e
  split at e
  · rename_i p E1 e1
    split at e
    · rename_i hh
      split at e
      · rename_i ds E2 e2
        split at e
        · rename_i hst
          split at e
          · rename_i m dd e3
            split at e
            · rename_i hw
              split at e
              · rename_i sd e4
                split at e
                · rename_i sd' res e5
                  split at e
                  · rename_i ha
                    split at e
                    · rename_i d' e6
                      cases e
                      obtain ⟨m9, d9, s9, k1, k2, k3⟩ := hasT_of hh
                      refine ⟨C, E, Fs, R, p, E1, e1, ⟨m9, d9, s9, k1, k2⟩, fun H1 Fs1 m1 d1 v sd1 sv Pf A S R1 s1 em ev hf => ?_⟩
                      obtain ⟨eF, rd1⟩ := foc_rds hf
                      have g1 := foc_det hf
                      have same : ∀ {H2 Fs2 FF vs}, Rel G C H2 σ E2 Fs2 → Stp M' H1 H2 E1 E2 Fs1 Fs2 → ArgsOk G σ H1 H2 E2 Fs2 ks ds vs FF → m1 = m ∧ d1 = dd ∧ sd1 = sd := fun {H2 Fs2 FF vs} R2 s2 a2 => by
                        have em2 : E2[i]? = some (some (m1, d1)) := by rw [s2.env i hi]; exact em
                        rw [e3] at em2
                        cases em2
                        rw [e4] at g1
                        cases g1
                        exact ⟨rfl, rfl, rfl⟩
                      refine ⟨?_, C, E1, Fs1, R1, ds, E2, e2, fun vs H2 Fs2 FF R2 s2 a2 => ?_⟩
                      · rw [k1] at em
                        cases em
                        rw [k2] at g1
                        cases g1
                        exact tyV_of rd1 k3
                      · obtain ⟨rfl, rfl, rfl⟩ := same R2 s2 a2
                        have fs2 := s2.fs i hi
                        have em2 : E2[i]? = some (some (m1, d1)) := e3
                        have ap : ∀ a ∈ Fs1 i, ¬ ∃ j ∈ M', ∃ m d, E1[j]? = some (some (m, d)) ∧ m.w = true ∧ a ∈ Fs1 j := fun a ha ⟨j, hj, mj, dj, h1, h2, h3⟩ => (R1.nd j mj dj h1 h2).2.2 i m1 d1 (fun z => hi (by rw [z]; exact hj)) em a h3 ha
                        have hf2 := Foc.chg s2.chg ap hf
                        obtain ⟨_, rd2⟩ := foc_rds hf2
                        obtain ⟨ndB, loB⟩ := storL_ok (C := C) hst a2
                        have nd2 := (R2.nd i m1 d1 em2 hw).1
                        have ndF : (Fs1 i).Nodup := by rw [← fs2]; exact nd2
                        have ndA : A.Nodup := by
                          rw [eF] at ndF
                          exact ((List.sublist_append_left A S).trans (List.sublist_append_right Pf _)).nodup ndF
                        have inA : ∀ a ∈ A, a ∈ Fs1 i := fun a ha => by rw [eF]; simp [ha]
                        refine P H2 sd1 sv A ds vs FF.flatten Q sd' _ rd2 a2.rds ndA ndB (fun a ha hb => ?_) e5 ha fun v3 H3 A' rA' rR ndA' inA' c3 => ?_
                        · exact (loB a hb).2 i ⟨m1, d1, em2⟩ (by rw [fs2]; exact inA a ha)
                        · have rd3 := foc_set hf2 ndF c3 rA' e6
                          have c3' : Chg (fun a => a ∈ Fs2 i) H2 H3 := c3.mono fun q o _ h => by rw [fs2]; exact inA q h
                          have split_ : ∀ a ∈ Pf ++ (A' ++ S), a ∈ Fs2 i ∨ a ∈ FF.flatten := fun a ha => by
                            rw [fs2, eF]
                            simp only [List.mem_append] at ha ⊢
                            rcases ha with z | z | z
                            · exact .inl (.inl z)
                            · rcases inA' a z with y | y
                              · exact .inl (.inr (.inl y))
                              · exact .inr y
                            · exact .inl (.inr (.inr z))
                          have ndN : (Pf ++ (A' ++ S)).Nodup := by
                            have ndF' := ndF
                            rw [eF, List.nodup_append] at ndF'
                            obtain ⟨n1, n2, n3⟩ := ndF'
                            rw [List.nodup_append] at n2
                            obtain ⟨_, n5, n6⟩ := n2
                            have ofB : ∀ {a}, a ∈ FF.flatten → a ∉ Fs1 i := fun {a} hb hm => (loB a hb).2 i ⟨m1, d1, em2⟩ (by rw [fs2]; exact hm)
                            rw [List.nodup_append]
                            refine ⟨n1, ?_, fun a ha b hb eab => ?_⟩
                            · rw [List.nodup_append]
                              refine ⟨ndA', n5, fun a ha b hb eab => ?_⟩
                              subst eab
                              rcases inA' a ha with y | y
                              · exact n6 a y a hb rfl
                              · exact ofB y (by rw [eF]; simp [hb])
                            · subst eab
                              rcases List.mem_append.mp hb with z | z
                              · rcases inA' a z with y | y
                                · exact n3 a ha a (by simp [y]) rfl
                                · exact ofB y (by rw [eF]; simp [ha])
                              · exact n3 a ha a (by simp [z]) rfl
                          have R3 := R2.write em2 hw ev c3' rd3 ndN fun a ha => by
                            rcases split_ a ha with z | z
                            · exact .inl z
                            · have l := loB a z
                              have hn := R1.hn a l.1
                              exact .inr ⟨hn.1, hn.2, fun j _ hj => l.2 j hj⟩
                          have s3 : Stp (M' ++ [i]) H1 H3 E1 (E2.set i (some (m1, d'))) Fs1 (FsSet Fs2 i (Pf ++ (A' ++ S))) := by
                            have hi2 : i < E2.length := (List.getElem?_eq_some_iff.mp em2).1
                            refine ⟨(s2.chg.trans c3').mono fun q o _ h => ?_, fun j hj => ?_, fun j a ha => ?_, fun j hj => ?_, fun j => ?_, fun j d9 e9 => ?_⟩
                            rotate_right
                            · have hji : j ≠ i := fun z => by
                                subst z
                                rw [em] at e9
                                cases e9
                                cases hw
                              show (if j = i then _ else Fs2 j) = Fs1 j
                              rw [if_neg hji]
                              exact s2.tf j d9 e9
                            · rcases h with ⟨j, hj, z⟩ | z
                              · exact ⟨j, List.mem_append_left _ hj, z⟩
                              · exact ⟨i, by simp, m1, d1, em, hw, by rw [← fs2]; exact z⟩
                            · have hji : j ≠ i := fun z => hj (by simp [z])
                              show (if j = i then _ else Fs2 j) = Fs1 j
                              rw [if_neg hji]
                              exact s2.fs j fun z => hj (by simp [z])
                            · by_cases hji : j = i
                              · subst hji
                                rw [FsSet_self] at ha
                                rcases split_ a ha with z | z
                                · rw [fs2] at z
                                  exact .inl z
                                · exact .inr (loB a z).1
                              · have ha : a ∈ (if j = i then (Pf ++ (A' ++ S)) else Fs2 j) := ha
                                rw [if_neg hji] at ha
                                exact s2.gr j a ha
                            · have hji : j ≠ i := fun z => hj (by simp [z])
                              rw [List.getElem?_set_ne (Ne.symm hji)]
                              exact s2.env j fun z => hj (by simp [z])
                            · by_cases hji : j = i
                              · subst hji
                                rw [List.getElem?_set_self hi2, em]
                                exact ⟨fun m' d2 z => by cases z; exact ⟨_, rfl⟩, fun m' d2 z => by cases z; exact ⟨_, rfl⟩⟩
                              · rw [List.getElem?_set_ne (Ne.symm hji)]
                                exact s2.md j
                          exact q v3 H3 _ [] R3 (s1.trans s3) rR ⟨List.nodup_nil, fun a ha => by cases ha⟩
                    · cases e
                  · cases e
                · cases e
              · cases e
            · cases e
          · cases e
        · cases e
      · cases e
    · cases e
  · cases e
end
end
end VL
set_option maxHeartbeats 4000000
namespace VL
noncomputable section
open PySem PySem.Spec PyProof.Rows L2
open GxR (TabB Tabbed)
variable [LamT]
section
variable {G : Gb} {X : Cx} {o e : Expr} {es : List Expr} {M M' : List Nat} {i : Nat} {ks : List Kind} {pf : PF} {l : LF} {op : OPD} {r : V → List V → Hp → VK → Prop} {name : Str} {apos cpos : Pos} {T id : String}
theorem ve_mut (x : XOk G X) (pa : PlainAttrs T) (slot : Slot T name id) (hty : typeOf (.builtin id) = pure (.type "method_descriptor")) (hm : MtR X id r) (P : MutOk G r op) (ho : VP G X o M i pf) (ha : VL G X (e :: es) M' ks l) (hi : (!M'.contains i) = true := by rfl)
    (hbase : attributeBase o name X.env (eval o X.env) = eval o X.env := by rfl)
    (hfew : ((backTo cpos (starEach (e :: es) X.env)).all (fun x => !x.1) && (backToKw cpos (keywordEach [] X.env)).all (fun x => x.1.isSome)
      && decide ((e :: es).length + ([] : List Keyword).length + (if ([] : List Keyword).isEmpty then 0 else 1) < 30)) = true := by rfl)
    (hline : (apos.endLine == cpos.line) = true := by rfl) (hs : starEach (e :: es) X.env = (false, eval e X.env) :: starEach es X.env := by rfl) (hplain : (backTo cpos (starEach es X.env)).any (·.1) = false := by rfl) :
    VE G X (.Call (.Attribute o name apos) (e :: es) [] cpos) (M ++ (M' ++ [i])) .own (eMut T i pf ks l op) :=
  PE.imp (pe_bm pa slot hty hm ho ha hbase hfew hline hs hplain) fun σ H Q h => by
    have z := mut_of P (by simpa using hi) h
    unfold tBM
    rw [x.K]
    exact z
theorem ve_mut0 (x : XOk G X) (pa : PlainAttrs T) (slot : Slot T name id) (hty : typeOf (.builtin id) = pure (.type "method_descriptor")) (hm : MtR X id r) (P : MutOk G r op) (ho : VP G X o M i pf)
    (hbase : attributeBase o name X.env (eval o X.env) = eval o X.env := by rfl) (hline : (apos.endLine == cpos.line) = true := by rfl) :
    VE G X (.Call (.Attribute o name apos) [] [] cpos) (M ++ [i]) .own (eMut T i pf [] lNil op) :=
  PE.imp (pe_bm0 pa slot hty hm ho hbase hline) fun σ H Q h => by
    obtain ⟨C, E, Fs, R, p, E', e1, e2, z⟩ := mut_of (M' := []) P (by simp) (by simpa using h)
    unfold tBM0
    rw [x.K]
    refine ⟨C, E, Fs, R, p, E', e1, e2, fun H' Fs' m d v sd sv P A S h1 h2 h3 h4 h5 => ?_⟩
    obtain ⟨z1, z2⟩ := z H' Fs' m d v sd sv P A S h1 h2 h3 h4 h5
    exact ⟨z1, nil_of z2⟩
theorem mut_lst {H : Hp} {ds' : List D} {a : Addr} {xs ys : List V} {A A' : List Addr} {Q : VK} {res : D} {v : V} (h1 : H a = some (.lst xs)) (hr : ∀ G H, Rds G H res v []) (r' : RdsL G H ds' ys A') (nd : (a :: A').Nodup) (inA : ∀ z ∈ A', z ∈ A)
    (q : ∀ H' A', Rds G H' (.lst ds') (.ref a) A' → Rds G H' res v [] → A'.Nodup → (∀ z ∈ A', z ∈ a :: A) → Chg (fun z => z = a) H H' → Q v H') : Q v (upd H a (.lst ys)) := by
  have c : Chg (fun z => z = a) H (upd H a (.lst ys)) := Chg.put h1 rfl rfl
  rw [List.nodup_cons] at nd
  refine q _ (a :: A') (rds_lst.mpr ⟨a, ys, A', rfl, upd_same, RdsL.chg c _ _ _ (fun z hz e => nd.1 (by rw [← e]; exact hz)) r', rfl⟩) (hr _ _) (List.nodup_cons.mpr nd) (fun z hz => ?_) c
  rcases List.mem_cons.mp hz with rfl | hz
  · exact List.mem_cons_self
  · exact List.mem_cons_of_mem _ (inA z hz)
def opApp : OPD
  | .lst ds, [d] => if sl (decide (ds.length < sizeLine)) then some (.lst (ds ++ [d]), .non) else none
  | _, _ => none
theorem mut_append : MutOk G rAppend opApp := fun H sd sv A ds vs B Q sd' res r1 r2 ndA ndB ap e ha q => by
  unfold opApp at e
  split at e
  · split at e
    · rename_i ds d hl
      replace hl := sl_iff.mp hl
      cases e
      obtain ⟨a, xs, A', rfl, h1, h2, rfl⟩ := rds_lst.mp r1
      obtain ⟨y, rfl, h3⟩ := rdsL1 r2
      refine ⟨a, xs, y, rfl, rfl, h1, by rw [rdsL_len h2]; exact hl, ?_⟩
      have r' : RdsL G H (ds ++ [d]) (xs ++ [y]) (A' ++ B) := rdsL_app h2 (rdsL_cons.mpr ⟨y, [], B, [], rfl, by simp, h3, rdsL_nil.mpr ⟨rfl, rfl⟩⟩)
      refine mut_lst (res := .non) (A := A' ++ B) h1 (fun _ _ => rds_non.mpr ⟨rfl, rfl⟩) r' ?_ (fun z hz => hz) fun H' A2 g1 g2 g3 g4 g5 => q _ H' A2 g1 g2 g3 (fun z hz => ?_) (g5.mono fun q o _ h => by rw [h]; exact List.mem_cons_self)
      · rw [← List.cons_append, List.nodup_append]
        exact ⟨ndA, ndB, fun z hz w hw e => ap z hz (by rw [e]; exact hw)⟩
      · rcases List.mem_cons.mp (g4 z hz) with rfl | y
        · exact .inl List.mem_cons_self
        · rcases List.mem_append.mp y with y | y
          · exact .inl (List.mem_cons_of_mem _ y)
          · exact .inr y
    · cases e
  · cases e
def opIns : OPD
  | .lst ds, [.int i, d] => if sl (decide (ds.length < sizeLine ∧ 0 ≤ i ∧ i < 2 ^ 63)) then some (.lst (ds.take i.toNat ++ [d] ++ ds.drop i.toNat), .non) else none
  | _, _ => none
theorem mut_less {H : Hp} {a : Addr} {xs ys : List V} {A B A' : List Addr} {ds' : List D} {res : D} {v : V} {Q : VK} (h1 : H a = some (.lst xs)) (ndA : (a :: A).Nodup) (hr : ∀ G H, Rds G H res v []) (r' : RdsL G H ds' ys A') (pm : ∃ L, L.Perm A ∧ A'.Sublist L)
    (q : ∀ v H' A', Rds G H' (.lst ds') (.ref a) A' → Rds G H' res v [] → A'.Nodup → (∀ z ∈ A', z ∈ a :: A ∨ z ∈ B) → Chg (fun z => z ∈ a :: A) H H' → Q v H') : Q v (upd H a (.lst ys)) := by
  obtain ⟨L, h2, h3⟩ := pm
  rw [List.nodup_cons] at ndA
  have inA : ∀ z ∈ A', z ∈ A := fun z hz => h2.mem_iff.mp (h3.subset hz)
  refine mut_lst (A := A) h1 hr r' (List.nodup_cons.mpr ⟨fun z => ndA.1 (inA _ z), h3.nodup (h2.symm.nodup ndA.2)⟩) inA fun H' A2 g1 g2 g3 g4 g5 => q _ H' A2 g1 g2 g3 (fun z hz => .inl (g4 z hz)) (g5.mono fun q o _ h => by rw [h]; exact List.mem_cons_self)
def opPop : OPD
  | .lst ds, [] => match ds[ds.length - 1]? with
    | some d => some (.lst ds.dropLast, d)
    | none => none
  | .lst ds, [.int i] => if sl (decide (-(2 ^ 63) ≤ i ∧ i < 2 ^ 63)) then (match seqIndex? i ds.length with
    | some k => (match ds[k]? with
      | some d => some (.lst (ds.eraseIdx k), d)
      | none => none)
    | none => none) else none
  | _, _ => none
abbrev rPopAll : V → List V → Hp → VK → Prop := fun x vs H Q => rPop x vs H Q ∨ rPopAt x vs H Q
theorem rdsL_erase {H : Hp} : ∀ {ds : List D} {vs : List V} {F : List Addr} (k : Nat), RdsL G H ds vs F → ∃ A, RdsL G H (ds.eraseIdx k) (vs.eraseIdx k) A ∧ A.Sublist F
  | [], _, F, k, h => by
    obtain ⟨rfl, rfl⟩ := rdsL_nil.mp h
    exact ⟨[], by simpa using h, List.Sublist.refl _⟩
  | d :: ds, _, F, 0, h => by
    obtain ⟨x, r, A, B, rfl, rfl, h1, h2⟩ := rdsL_cons.mp h
    exact ⟨B, h2, List.sublist_append_right ..⟩
  | d :: ds, _, F, k + 1, h => by
    obtain ⟨x, r, A, B, rfl, rfl, h1, h2⟩ := rdsL_cons.mp h
    obtain ⟨B', h3, h4⟩ := rdsL_erase k h2
    exact ⟨A ++ B', rdsL_cons.mpr ⟨x, _, A, B', rfl, rfl, h1, h3⟩, (List.Sublist.refl A).append h4⟩
theorem eraseIdx_last {α : Type} (l : List α) : l.eraseIdx (l.length - 1) = l.dropLast := by
  rw [List.eraseIdx_eq_take_drop_succ, List.dropLast_eq_take]
  cases l with
  | nil => rfl
  | cons a l => simp
theorem atom_any {H H' : Hp} {M : Addr → Prop} {d : D} {v : V} {A : List Addr} (ha : d.atom = true) (r : Rds G H d v A) (c : Chg M H H') : Rds G H' d v [] := by
  have e := Rds.atom d v A ha r
  subst e
  exact Rds.chg c _ _ _ (fun a h => by cases h) r
theorem mut_pop : MutOk G rPopAll opPop := fun H sd sv A ds vs B Q sd' res r1 r2 ndA ndB ap e ha q => by
  unfold opPop at e
  split at e
  · rename_i ds0
    split at e
    · rename_i d e1
      cases e
      obtain ⟨a, xs, A', rfl, h1, h2, rfl⟩ := rds_lst.mp r1
      obtain ⟨rfl, rfl⟩ := rdsL_nil.mp r2
      obtain ⟨y, A1, g1, g2, g3⟩ := rdsL_get h2 e1
      obtain ⟨A2, g4, g5⟩ := rdsL_erase (ds0.length - 1) h2
      have hl := rdsL_len h2
      rw [← hl] at g4 g1
      refine .inl ⟨a, xs, y, rfl, rfl, h1, g1, ?_⟩
      have e3 : xs.eraseIdx (xs.length - 1) = xs.dropLast := eraseIdx_last xs
      rw [e3, hl] at g4
      rw [eraseIdx_last] at g4
      have c : Chg (fun z => z = a) H (upd H a (.lst xs.dropLast)) := Chg.put h1 rfl rfl
      rw [List.nodup_cons] at ndA
      refine q _ _ (a :: A2) (rds_lst.mpr ⟨a, _, A2, rfl, upd_same, RdsL.chg c _ _ _ (fun z hz e => ndA.1 (by rw [← e]; exact g5.subset hz)) g4, rfl⟩) (atom_any ha g2 c) (List.nodup_cons.mpr ⟨fun z => ndA.1 (g5.subset z), g5.nodup ndA.2⟩) (fun z hz => .inl ?_) (c.mono fun q o _ h => by rw [h]; exact List.mem_cons_self)
      rcases List.mem_cons.mp hz with rfl | hz
      · exact List.mem_cons_self
      · exact List.mem_cons_of_mem _ (g5.subset hz)
    · cases e
  · rename_i ds0 i
    split at e
    · rename_i hb
      replace hb := sl_iff.mp hb
      split at e
      · rename_i k ek
        split at e
        · rename_i d e1
          cases e
          obtain ⟨a, xs, A', rfl, h1, h2, rfl⟩ := rds_lst.mp r1
          obtain ⟨y0, rfl, h0⟩ := rdsL1 r2
          obtain ⟨rfl, rfl⟩ := rds_int.mp h0
          obtain ⟨y, A1, g1, g2, g3⟩ := rdsL_get h2 e1
          obtain ⟨A2, g4, g5⟩ := rdsL_erase k h2
          refine .inr ⟨a, xs, i, k, y, rfl, rfl, h1, hb.1, hb.2, by rw [rdsL_len h2]; exact ek, g1, ?_⟩
          have c : Chg (fun z => z = a) H (upd H a (.lst (xs.eraseIdx k))) := Chg.put h1 rfl rfl
          rw [List.nodup_cons] at ndA
          refine q _ _ (a :: A2) (rds_lst.mpr ⟨a, _, A2, rfl, upd_same, RdsL.chg c _ _ _ (fun z hz e => ndA.1 (by rw [← e]; exact g5.subset hz)) g4, rfl⟩) (atom_any ha g2 c) (List.nodup_cons.mpr ⟨fun z => ndA.1 (g5.subset z), g5.nodup ndA.2⟩) (fun z hz => .inl ?_) (c.mono fun q o _ h => by rw [h]; exact List.mem_cons_self)
          rcases List.mem_cons.mp hz with rfl | hz
          · exact List.mem_cons_self
          · exact List.mem_cons_of_mem _ (g5.subset hz)
        · cases e
      · cases e
    · cases e
  · cases e
def opClear : OPD
  | .lst _, [] => some (.lst [], .non)
  | _, _ => none
theorem mut_clear : MutOk G rClear opClear := fun H sd sv A ds vs B Q sd' res r1 r2 ndA ndB ap e ha q => by
  unfold opClear at e
  split at e
  · cases e
    obtain ⟨a, xs, A', rfl, h1, h2, rfl⟩ := rds_lst.mp r1
    obtain ⟨rfl, rfl⟩ := rdsL_nil.mp r2
    exact ⟨a, xs, rfl, rfl, h1, mut_less (B := []) h1 ndA (fun _ _ => rds_non.mpr ⟨rfl, rfl⟩) (rdsL_nil.mpr ⟨rfl, rfl⟩) ⟨A', List.Perm.refl _, List.nil_sublist _⟩ q⟩
  · cases e
def opExt : OPD
  | .lst ds, [.lst es] => if sl (decide (ds.length + es.length ≤ sizeLine)) then some (.lst (ds ++ es), .non) else none
  | _, _ => none
end
end
end VL
set_option maxHeartbeats 4000000
namespace VL
noncomputable section
open PySem PySem.Spec PyProof.Rows L2
open GxR (TabB Tabbed)
variable [LamT]
def putKD : List Key → List D → Key → D → List Key × List D
  | k' :: ks, d' :: ds, k, d => if k' = k then (k' :: ks, d :: ds) else (k' :: (putKD ks ds k d).1, d' :: (putKD ks ds k d).2)
  | _, _, k, d => ([k], [d])
theorem putK_cons {us : List (Key × V)} {k k' : Key} {v v' : V} (hn : k' ∉ us.map (·.1)) : putK ((k', v') :: us) k v = if k' = k then (k', v) :: us else (k', v') :: putK us k v := by
  by_cases h : k' = k
  · subst h
    rw [if_pos rfl]
    unfold putK
    rw [if_pos (by simp)]
    rw [List.map_cons, if_pos rfl]
    have : us.map (fun kv => if kv.1 = k' then (kv.1, v) else kv) = us := by
      rw [List.map_congr_left (g := id)]
      · simp
      · intro a ha
        rw [if_neg fun z => hn (by rw [← z]; exact List.mem_map_of_mem ha)]
        rfl
    rw [this]
  · rw [if_neg h]
    unfold putK
    have e : (((k', v') :: us).any fun kv => decide (kv.1 = k)) = us.any fun kv => decide (kv.1 = k) := by simp [h]
    rw [e]
    split
    · rw [List.map_cons, if_neg h]
    · rfl
section
variable {G : Gb} {X : Cx}
theorem rdsL_putK {H : Hp} {k : Key} {d : D} {v : V} {B : List Addr} : ∀ {us : List (Key × V)} {ds : List D} {A : List Addr}, RdsL G H ds (us.map (·.2)) A → (us.map (·.1)).Nodup → Rds G H d v B → A.Nodup → B.Nodup → (∀ a ∈ A, a ∉ B) →
    (putK us k v).map (·.1) = (putKD (us.map (·.1)) ds k d).1 ∧ (putKD (us.map (·.1)) ds k d).1.Nodup ∧ (∀ x ∈ (putKD (us.map (·.1)) ds k d).1, x = k ∨ x ∈ us.map (·.1)) ∧ ∃ A', RdsL G H (putKD (us.map (·.1)) ds k d).2 ((putK us k v).map (·.2)) A' ∧ A'.Nodup ∧ ∀ a ∈ A', a ∈ A ∨ a ∈ B
  | [], ds, A, h, nk, rb, nA, nB, ap => by
    have e := rdsL_len h
    cases ds with
    | cons _ _ => simp at e
    | nil =>
      refine ⟨rfl, by simp [putKD], fun x hx => .inl (by simpa [putKD] using hx), B, ?_, nB, fun a ha => .inr ha⟩
      exact rdsL_cons.mpr ⟨v, [], B, [], rfl, by simp, rb, rdsL_nil.mpr ⟨rfl, rfl⟩⟩
  | (k', v') :: us, ds, A, h, nk, rb, nA, nB, ap => by
    cases ds with
    | nil => exact absurd (rdsL_len h) (by simp)
    | cons d' ds =>
      obtain ⟨x, r, A1, A2, e, rfl, h1, h2⟩ := rdsL_cons.mp h
      cases e
      rw [List.map_cons, List.nodup_cons] at nk
      rw [List.nodup_append] at nA
      rw [putK_cons nk.1]
      by_cases hk : k' = k
      · rw [if_pos hk]
        simp only [List.map_cons, putKD, if_pos hk]
        refine ⟨trivial, List.nodup_cons.mpr nk, fun x hx => .inr hx, B ++ A2, rdsL_cons.mpr ⟨v, _, B, A2, rfl, rfl, rb, h2⟩, ?_, fun a ha => ?_⟩
        · rw [List.nodup_append]
          exact ⟨nB, nA.2.1, fun z hz w hw e => ap w (List.mem_append_right _ hw) (by rw [← e]; exact hz)⟩
        · rcases List.mem_append.mp ha with z | z
          · exact .inr z
          · exact .inl (List.mem_append_right _ z)
      · rw [if_neg hk]
        simp only [List.map_cons, putKD, if_neg hk]
        obtain ⟨g1, g2, g3, A', g4, g5, g6⟩ := rdsL_putK (k := k) (d := d) h2 nk.2 rb nA.2.1 nB (fun a ha => ap a (List.mem_append_right _ ha))
        refine ⟨by rw [g1], List.nodup_cons.mpr ⟨fun hm => ?_, g2⟩, fun x hx => ?_, A1 ++ A', rdsL_cons.mpr ⟨v', _, A1, A', rfl, rfl, h1, g4⟩, ?_, fun a ha => ?_⟩
        · rcases g3 k' hm with z | z
          · exact hk z
          · exact nk.1 z
        · rcases List.mem_cons.mp hx with z | z
          · exact .inr (by rw [z]; exact List.mem_cons_self)
          · rcases g3 x z with y | y
            · exact .inl y
            · exact .inr (List.mem_cons_of_mem _ y)
        · rw [List.nodup_append]
          refine ⟨nA.1, g5, fun z hz w hw e => ?_⟩
          rcases g6 w hw with y | y
          · exact nA.2.2 z hz w y e
          · exact ap z (List.mem_append_left _ hz) (by rw [e]; exact y)
        · rcases List.mem_append.mp ha with z | z
          · exact .inl (List.mem_append_left _ z)
          · rcases g6 a z with y | y
            · exact .inl (List.mem_append_right _ y)
            · exact .inr y
def opSet : OPD
  | .lst ds, [.int k, d] => (match ixN ds.length k with
    | some j => some (.lst (ds.set j d), .non)
    | none => none)
  | .dct ks ds, [kd, d] => (match keyD kd with
    | some k => if sl (decide (ks.length < sizeLine)) then some (.dct (putKD ks ds k d).1 (putKD ks ds k d).2, .non) else none
    | none => none)
  | _, _ => none
abbrev tSetAll : V → V → V → Hp → (Hp → Prop) → Prop := fun o i v H Q => rSetL o i v H Q ∨ ∃ a H', o = .ref a ∧ DPut H a i v H' ∧ Q H'
theorem pset_all (x : XOk G X) : PSet X tSetAll := by
  intro pins s σ H o i v ov iv u Q I ro ri rv h
  rcases h with h | ⟨a, H', rfl, hp, q⟩
  · exact set_list pins s σ H o i v ov iv u Q I ro ri rv h
  · cases ro
    exact d_setItem (by have := x.un; omega) I hp ri rv fun s' I' => ⟨H', I', q⟩
theorem mut_set : MutOk G (fun x vs H Q => ∃ i v, vs = [i, v] ∧ tSetAll x i v H (Q .non)) opSet := fun H sd sv A ds vs B Q sd' res r1 r2 ndA ndB ap e ha q => by
  unfold opSet at e
  split at e
  · rename_i ds k d
    split at e
    · rename_i j ej
      cases e
      obtain ⟨a, xs, A', rfl, h1, h2, rfl⟩ := rds_lst.mp r1
      obtain ⟨y0, y, B0, B1, rfl, rfl, h0, h3⟩ := rdsL2 r2
      obtain ⟨rfl, rfl⟩ := rds_int.mp h0
      rw [List.nil_append] at ndB ap
      have hl := rdsL_len h2
      obtain ⟨_, hj, _⟩ := ixN_seq ej
      obtain ⟨x0, A1, A2, A3, g1, g2, g3, g4, rfl⟩ := rdsL_split h2 (List.getElem?_eq_getElem hj)
      refine ⟨_, _, rfl, .inl ⟨a, xs, k, j, rfl, rfl, h1, by rw [hl]; exact ej, ?_⟩⟩
      have hjx : j < (xs.set j y).length := by rw [List.length_set, hl]; exact hj
      have r' : RdsL G H (ds.set j d) (xs.set j y) (A1 ++ (B1 ++ A3)) := by
        refine rdsL_join hj (by rw [List.length_set]; exact hl) (List.getElem?_set_self (by rw [hl]; exact hj)) ?_ h3 ?_
        · rw [List.take_set_of_le (Nat.le_refl _)]
          exact g2
        · rw [List.drop_set_of_lt (Nat.lt_succ_self _)]
          exact g4
      refine mut_lst (res := .non) (A := A1 ++ (B1 ++ A3)) h1 (fun _ _ => rds_non.mpr ⟨rfl, rfl⟩) r' ?_ (fun z hz => hz) fun H' A2 g1 g2 g3 g4 g5 => q _ H' A2 g1 g2 g3 (fun z hz => ?_) (g5.mono fun q o _ h => by rw [h]; exact List.mem_cons_self)
      · rw [List.nodup_cons] at ndA ⊢
        obtain ⟨n1, n2⟩ := ndA
        rw [List.nodup_append] at n2 ⊢
        obtain ⟨n3, n4, n5⟩ := n2
        rw [List.nodup_append] at n4
        refine ⟨fun hm => ?_, n3, ?_, fun z hz w hw e => ?_⟩
        · rcases List.mem_append.mp hm with hm | hm
          · exact n1 (by simp [hm])
          · rcases List.mem_append.mp hm with hm | hm
            · exact ap a List.mem_cons_self hm
            · exact n1 (by simp [hm])
        · rw [List.nodup_append]
          exact ⟨ndB, n4.2.1, fun z hz w hw e => ap w (by simp [hw]) (by rw [← e]; exact hz)⟩
        · rcases List.mem_append.mp hw with hw | hw
          · exact ap z (by simp [hz]) (by rw [e]; exact hw)
          · exact n5 z hz w (by simp [hw]) e
      · rcases List.mem_cons.mp (g4 z hz) with rfl | y
        · exact .inl List.mem_cons_self
        · rcases List.mem_append.mp y with y | y
          · exact .inl (by simp [y])
          · rcases List.mem_append.mp y with y | y
            · exact .inr (by simpa using y)
            · exact .inl (by simp [y])
    · cases e
  · rename_i ks ds kd d
    split at e
    · rename_i k ek
      split at e
      · rename_i hl
        replace hl := sl_iff.mp hl
        cases e
        obtain ⟨a, us, A', rfl, h1, ⟨rfl, hnd⟩, h2, rfl⟩ := rds_dct.mp r1
        obtain ⟨y0, y, B0, B1, rfl, rfl, h0, h3⟩ := rdsL2 r2
        have ey := rds_key ek h0
        subst ey
        have eB : B0 = [] := by
          cases kd <;> unfold keyD at ek <;> first | cases ek | skip
          · exact (rds_int.mp h0).2
          · exact (rds_str.mp h0).2
        subst eB
        rw [List.nil_append] at ndB ap
        rw [List.nodup_cons] at ndA
        obtain ⟨g1, g2, _, A2, g4, g5, g6⟩ := rdsL_putK (k := k) (d := d) h2 hnd h3 ndA.2 ndB (fun z hz => ap z (List.mem_cons_of_mem _ hz))
        refine ⟨_, _, rfl, .inr ⟨a, _, rfl, DPut.k h1 (by simpa using hl), ?_⟩⟩
        have c : Chg (fun z => z = a) H (upd H a (.dK (putK us k y))) := Chg.put h1 rfl rfl
        have naA : a ∉ A2 := fun hm => by
          rcases g6 a hm with z | z
          · exact ndA.1 z
          · exact ap a List.mem_cons_self z
        refine q _ _ (a :: A2) (rds_dct.mpr ⟨a, _, A2, rfl, upd_same, ⟨g1, g2⟩, RdsL.chg c _ _ _ (fun z hz e => naA (by rw [← e]; exact hz)) g4, rfl⟩) (rds_non.mpr ⟨rfl, rfl⟩) (List.nodup_cons.mpr ⟨naA, g5⟩) (fun z hz => ?_) (c.mono fun q o _ h => by rw [h]; exact List.mem_cons_self)
        rcases List.mem_cons.mp hz with rfl | hz
        · exact .inl List.mem_cons_self
        · rcases g6 z hz with y | y
          · exact .inl (List.mem_cons_of_mem _ y)
          · exact .inr (by simpa using y)
      · cases e
    · cases e
  · cases e
def sSetIt (i : Nat) (k : Kind) (f : EF) (pf : PF) (g : EF) : SF := fun E => match f E with
  | some (d, E1) => (match pf E1 with
    | some (p, E2) => if hasP E2 i p then (match g E2 with
      | some (ix, E3) => if storable k d && ix.atom then (match E3[i]? with
        | some (some (m, dd)) => if m.w then (match getP p dd with
          | some sd => (match opSet sd [ix, d] with
            | some (sd', _) => (match setP p dd sd' with
              | some d' => some (.nx (E3.set i (some (m, d'))))
              | none => none)
            | none => none)
          | none => none) else none
        | _ => none) else none
      | none => none) else none
    | none => none)
  | none => none
theorem vs_setItem {ro : Bool} {o ix e : Expr} {M : List Nat} {i : Nat} {k k' : Kind} {f g : EF} {pf : PF} {pos pos' : Pos} (x : XOk G X) (he : VE G X e M k f) (ho : VP G X o [] i pf) (hi : VE G X ix [] k' g)
    (ha : ∀ v, assign (.Subscript o ix pos') X.env v = (do
      let ov ← holding [v] (eval o X.env)
      let iv ← holding [v, ov] (eval ix X.env)
      standAt pos'
      holding [v, ov, iv] (setItem ov iv v)
      release [v, ov, iv] []) := by intro _; rfl) (hs : swapsWithSole [.Subscript o ix pos'] e pos.line X.env = pure false := by rfl) (hw : swappedStores [.Subscript o ix pos'] e X.env = pure none := by rfl)
    (h1 : (assignEach [.Subscript o ix pos'] X.env).map (·.2) = [assign (.Subscript o ix pos') X.env] := by rfl) : VS G X ro (.Assign [.Subscript o ix pos'] e pos) (sSetIt i k f pf g) :=
  PS.imp (ps_asg he (pg_sub ho hi (pset_all x) ha) hs hw h1) fun N σ H ⟨C, E, Fs, R, o, e, q⟩ => by
    unfold sSetIt at e
    split at e
    · rename_i d E1 e1
      split at e
      · rename_i p E2 e2
        split at e
        · rename_i hh
          split at e
          · rename_i ixd E3 e3
            split at e
            · rename_i hst
              split at e
              · rename_i m dd e4
                split at e
                · rename_i hw
                  split at e
                  · rename_i sd e5
                    split at e
                    · rename_i sd' rr e6
                      split at e
                      · rename_i d' e7
                        cases e
                        rw [Bool.and_eq_true] at hst
                        refine ⟨C, E, Fs, R, d, E1, e1, fun vv H1 Fs1 B R1 s1 rv kv => ?_⟩
                        refine ⟨C, E1, Fs1, R1, p, E2, e2, hasP_of hh, fun H2 Fs2 m1 d1 v sd1 sv Pf A S R2 s2 em ev hf => ?_⟩
                        refine ⟨C, E2, Fs2, R2, ixd, E3, e3, fun iv H3 Fs3 F3 R3 s3 r3 k3 => ?_⟩
                        obtain ⟨rv2, kv2⟩ := kv.step R1 rv s2 (safe_nil k)
                        obtain ⟨rv3, kv3⟩ := kv2.step R2 rv2 s3 (safe_nil k)
                        have em3 : E3[i]? = some (some (m1, d1)) := by rw [s3.env i (by simp)]; exact em
                        rw [e4] at em3
                        cases em3
                        have fs3 := s3.fs i (by simp)
                        have hf3 := Foc.chg s3.chg (fun a _ ⟨j, hj, _⟩ => by cases hj) hf
                        rw [← fs3] at hf3
                        have g1 := foc_det hf3
                        rw [e5] at g1
                        cases g1
                        obtain ⟨eF, rd3⟩ := foc_rds hf3
                        have nd3 := (R3.nd i m dd e4 hw).1
                        have ndA : A.Nodup := by
                          rw [eF] at nd3
                          exact ((List.sublist_append_left A S).trans (List.sublist_append_right Pf _)).nodup nd3
                        have inA : ∀ a ∈ A, a ∈ Fs3 i := fun a ha => by rw [eF]; simp [ha]
                        obtain ⟨ndB, loB⟩ := storL_ok (C := C) (show storL [k] [d] = true from hst.1) (G := G) (σ := σ) (H := H) (H1 := H3) (E := E3) (Fs := Fs3) (vs := [vv]) (FF := [B]) ⟨d, [], vv, [], B, [], rfl, rfl, rfl, rv3, kv3, fun j B' hB => by simp at hB, rfl, rfl, rfl⟩
                        simp only [List.flatten_cons, List.flatten_nil, List.append_nil] at ndB loB
                        have eI := Rds.atom _ _ _ hst.2 r3
                        subst eI
                        have ofB : ∀ {a}, a ∈ B → a ∉ Fs3 i := fun {a} hb hm => (loB a hb).2 i ⟨m, dd, e4⟩ hm
                        have fin4 : ∀ (v3 : V) (H4 : Hp) (A' : List Addr), Rds G H4 sd' sv A' → Rds G H4 rr v3 [] → A'.Nodup → (∀ a ∈ A', a ∈ A ∨ a ∈ B) → Chg (fun a => a ∈ A) H3 H4 → N.nx σ H4 := fun v3 H4 A' rA' rR ndA' inA' c4 => by
                          have rd4 := foc_set hf3 nd3 c4 rA' e7
                          have c4' : Chg (fun a => a ∈ Fs3 i) H3 H4 := c4.mono fun q o _ h => inA q h
                          have ndN : (Pf ++ (A' ++ S)).Nodup := by
                            have ndF' := nd3
                            rw [eF, List.nodup_append] at ndF'
                            obtain ⟨n1, n2, n3⟩ := ndF'
                            rw [List.nodup_append] at n2
                            obtain ⟨_, n5, n6⟩ := n2
                            rw [List.nodup_append]
                            refine ⟨n1, ?_, fun a ha b hb eab => ?_⟩
                            · rw [List.nodup_append]
                              refine ⟨ndA', n5, fun a ha b hb eab => ?_⟩
                              subst eab
                              rcases inA' a ha with y | y
                              · exact n6 a y a hb rfl
                              · exact ofB y (by rw [eF]; simp [hb])
                            · subst eab
                              rcases List.mem_append.mp hb with z | z
                              · rcases inA' a z with y | y
                                · exact n3 a ha a (by simp [y]) rfl
                                · exact ofB y (by rw [eF]; simp [ha])
                              · exact n3 a ha a (by simp [z]) rfl
                          refine q σ H4 _ (R3.write e4 hw ev c4' rd4 ndN fun a ha => ?_)
                          rw [eF]
                          simp only [List.mem_append] at ha ⊢
                          have byB : a ∈ B → C.H0 a = none ∧ ¬ C.T a ∧ ∀ j, j ≠ i → Asg E3 j → a ∉ Fs3 j := fun y => ⟨(R.hn a (loB a y).1).1, (R.hn a (loB a y).1).2, fun j _ hj => (loB a y).2 j hj⟩
                          rcases ha with z | z | z
                          · exact .inl (.inl z)
                          · rcases inA' a z with y | y
                            · exact .inl (.inr (.inl y))
                            · exact .inr (byB y)
                          · exact .inl (.inr (.inr z))
                        obtain ⟨_, _, ez, fin⟩ := mut_set H3 sd sv A [ixd, d] [iv, vv] B (fun _ H' => N.nx σ H') sd' rr rd3 (rdsL_cons.mpr ⟨iv, _, [], B, rfl, rfl, r3, rdsL_cons.mpr ⟨vv, [], B, [], rfl, by simp, rv3, rdsL_nil.mpr ⟨rfl, rfl⟩⟩⟩) ndA ndB (fun a ha hb => ofB hb (inA a ha)) e6 (by
                            unfold opSet at e6
                            split at e6
                            · split at e6
                              · cases e6
                                rfl
                              · cases e6
                            · split at e6
                              · split at e6
                                · cases e6
                                  rfl
                                · cases e6
                              · cases e6
                            · cases e6) fin4
                        cases ez
                        exact fin
                      · cases e
                    · cases e
                  · cases e
                · cases e
              · cases e
            · cases e
          · cases e
        · cases e
      · cases e
    · cases e
end
end
end VL
set_option maxHeartbeats 4000000
namespace VL
noncomputable section
open PySem PySem.Spec PyProof.Rows L2
open GxR (TabB Tabbed)
variable [LamT]
section
variable {G : Gb} {X : Cx} {o e : Expr} {M M' : List Nat} {k k' : Kind} {f g : EF} {pos apos cpos : Pos}
def eDict0 : EF := fun E => some (.dct [] [], E)
theorem ve_dict0 : VE G X (.Dict [] [] pos) [] .own eDict0 := PE.imp pe_dnewK fun σ H Q ⟨C, E, Fs, R, d, E', e, q⟩ p np => by
  cases e
  have c : Chg No H (upd H p (.dK [])) := Chg.new np
  refine q _ _ Fs [p] (R.chg c) (Stp.of c) (rds_dct.mpr ⟨p, [], [], rfl, upd_same, ⟨rfl, List.nodup_nil⟩, rdsL_nil.mpr ⟨rfl, rfl⟩, rfl⟩) ⟨by simp, fun a ha => .inr ?_⟩
  rw [List.mem_singleton.mp ha]
  exact R.loose np
def eDict1 (f g : EF) : EF := fun E => match f E with
  | some (kd, E1) => (match keyD kd with
    | some k => (match g E1 with
      | some (d, E2) => some (.dct [k] [d], E2)
      | none => none)
    | none => none)
  | none => none
theorem args2 {C : Ctx} {σ : L2.St} {H H1 H2 : Hp} {E1 E2 : Env} {Fs1 Fs2 : Nat → List Addr} {d d2 : D} {v y : V} {F F2 : List Addr} {M1 : Addr → Prop} (c1 : Chg M1 H H1) (R1 : Rel G C H1 σ E1 Fs1) (r1 : Rds G H1 d v F) (k1 : KOk σ H E1 Fs1 k d v F) (s2 : Stp M' H1 H2 E1 E2 Fs1 Fs2) (r2 : Rds G H2 d2 y F2) (k2 : KOk σ H1 E2 Fs2 k' d2 y F2) (sf : k.safe M' = true) :
    ArgsOk G σ H H2 E2 Fs2 [k, k'] [d, d2] [v, y] [F, F2] := by
  obtain ⟨r1', k1'⟩ := k1.step R1 r1 s2 sf
  refine ⟨d, [d2], v, [y], F, [F2], rfl, rfl, rfl, r1', k1', fun j B hB hk a ha hb => ?_, d2, [], y, [], F2, [], rfl, rfl, rfl, r2, k2.base c1, fun j B hB => by simp at hB, rfl, rfl, rfl⟩
  cases j with
  | succ j => simp at hB
  | zero =>
    simp at hB
    subst hB
    obtain ⟨o, eo, _⟩ := Rds.trk d v F r1 a ha
    rcases k2.vw a hb with ⟨i, hi, h1, h2⟩ | h1
    · rcases hk with hk | hk
      · subst hk
        rcases k1'.2 a ha with ⟨_, z, _⟩ | z
        · cases z
        · exact z.2 i h1 h2
      · simp at hk
        subst hk
        cases hi
    · rw [h1.1] at eo
      cases eo
def pGet : List D → Option D
  | [.dct ks ds, k] => (keyD k).map fun k => (atK ks ds k).getD .non
  | _ => none
theorem ve_get (x : XOk G X) (ho : VE G X o M k f) (he : VE G X e M' k' g) (m : M1 X o "get" apos e cpos) (sf : k.safe M' = true := by rfl) : VE G X (.Call (.Attribute o "get" apos) [e] [] cpos) (M ++ M') (kPart [k, k']) (ePrim pGet (lCons f (lCons g lNil))) :=
  PE.imp (pe_dget1 (by have := x.un; omega) ho he m) fun σ H Q ⟨C, E, Fs, R, d, E', e, q⟩ => by
    obtain ⟨ds, e1, e2⟩ := ePrim_some e
    have P : PrimE G (r2 fun x y H Q => ∃ a o, x = .ref a ∧ DGet H a y o ∧ Q (o.getD .non) H) pGet := fun H d1 v1 F1 vs ds F Q d tb r1 r e q => by
      unfold pGet at e
      split at e
      · rename_i ks xs kd heq
        cases heq
        obtain ⟨y, rfl, h2⟩ := rdsL1 r
        obtain ⟨a, us, A', rfl, h3, ⟨rfl, hnd⟩, h4, rfl⟩ := rds_dct.mp r1
        cases hk : keyD kd with
        | none => rw [hk] at e; cases e
        | some k' =>
          rw [hk] at e
          cases e
          have ey := rds_key hk h2
          subst ey
          refine ⟨_, _, rfl, a, valV us k', rfl, DGet.k h3, ?_⟩
          have z := rdsL_atK (k := k') h4
          cases h5 : atK (us.map (·.1)) xs k' with
          | none =>
            rw [z.2 h5]
            have q' := q .non H [] (by show Rds G H ((atK (us.map (·.1)) xs k').getD .non) .non []; rw [h5]; exact rds_non.mpr ⟨rfl, rfl⟩) (List.nil_sublist _) (Chg.refl _ _)
            exact q'
          | some d' =>
            obtain ⟨v', A, h6, h7, h8⟩ := z.1 d' h5
            rw [h6]
            exact q v' H A (by show Rds G H ((atK (us.map (·.1)) xs k').getD .non) v' A; rw [h5]; exact h7) (h8.trans (List.sublist_cons_self ..)) (Chg.refl _ _)
      · cases e
    unfold lCons at e1
    split at e1
    · rename_i d1 E1 ef
      split at e1
      · rename_i ds1 E2 eg
        cases e1
        unfold lNil at eg
        split at eg
        · rename_i d2 E3 eg2
          cases eg
          have hd : ∃ ks xs, d1 = .dct ks xs := by
            unfold pGet at e2
            split at e2
            · rename_i ks xs kd heq
              cases heq
              exact ⟨ks, xs, rfl⟩
            · cases e2
          obtain ⟨ks, xs, rfl⟩ := hd
          refine ⟨C, E, Fs, R, _, E1, ef, fun v H1 Fs1 F1 R1 s1 r1 k1 => ?_⟩
          obtain ⟨a, us, A', rfl, h3, h4⟩ := rds_dct.mp r1
          refine ⟨a, rfl, .inl ⟨us, .inl h3⟩, C, E1, Fs1, R1, d2, E', eg2, fun y H2 Fs2 F2 R2 s2 rr2 k2 => ?_⟩
          obtain ⟨_, _, ez, b, oo, eb, g1, g2⟩ := fin_part (ks := [k']) P R2 (s1.trans s2) (args2 s1.chg R1 r1 k1 s2 rr2 k2 sf) e2 q
          cases ez
          cases eb
          exact ⟨oo, g1, g2⟩
        · cases eg
      · cases e1
    · cases e1
end
end
end VL
set_option maxHeartbeats 8000000
namespace VL
noncomputable section
open PySem PySem.Spec PyProof.Rows L2
open GxR (TabB Tabbed)
variable [LamT]
end
end VL
set_option maxHeartbeats 8000000
namespace VL
noncomputable section
open PySem PySem.Spec PyProof.Rows L2
open GxR (TabB Tabbed)
variable [LamT]
def sortI (ns : List Int) : List Int := ns.mergeSort fun a b => decide (a ≤ b)
theorem sortI_perm (ns : List Int) : (sortI ns).Perm ns := List.mergeSort_perm _ _
theorem sortI_le (ns : List Int) : (sortI ns).Pairwise (· ≤ ·) := by
  have h := List.pairwise_mergeSort (le := fun a b : Int => decide (a ≤ b)) (by intro a b c h1 h2; simp only [decide_eq_true_eq] at *; omega) (by intro a b; simp only [Bool.or_eq_true, decide_eq_true_eq]; omega) ns
  exact h.imp fun h => of_decide_eq_true h
theorem sortI_uniq {ns ms : List Int} (h : ms.Perm ns) (s : ms.Pairwise (· ≤ ·)) : ms = sortI ns :=
  List.Perm.eq_of_pairwise (fun a b _ _ h1 h2 => Int.le_antisymm h1 h2) s (sortI_le ns) (h.trans (sortI_perm ns).symm)
section
variable {G : Gb} {X : Cx} {H : Hp} {pos p p2 q : Pos} {e : Expr} {M : List Nat} {k : Kind} {f : EF}
def pSumA : List D → Option D
  | [d] => match d.items with
    | some ds => (intsD ds).map fun ns => .int ns.sum
    | none => none
  | _ => none
def pSortedI : List D → Option D
  | [.lst ds] => match intsD ds with
    | some ns => if ns.length < 64 then some (.lst ((sortI ns).map .int)) else none
    | none => none
  | _ => none
theorem q_newF {Q : VK} {ds : List D} {vs : List V} {a : Addr} (np : H a = none) (r : RdsL G H ds vs []) (q : ∀ v H' A, Rds G H' (.lst ds) v A → A.Nodup → (∀ a ∈ A, H a = none) → Chg No H H' → Q v H') : Q (.ref a) (upd H a (.lst vs)) :=
  q_new (d := .non) np r q
theorem prim_sortedI (hK : X.K = G.K) : PrimF G (rSorted X.K) pSortedI := fun H vs ds F Q d tb r e q => by
  rw [hK]
  unfold pSortedI at e
  split at e
  · rename_i xs
    split at e
    · rename_i ns e2
      split at e
      · rename_i hl
        cases e
        obtain ⟨v, rfl, h1⟩ := rdsL1 r
        obtain ⟨a, us, A, rfl, h3, h4, rfl⟩ := rds_lst.mp h1
        rw [intsD_of e2] at h4
        obtain ⟨rfl, rfl⟩ := rdsL_ints h4
        refine ⟨a, ns, rfl, SqL.of h3, hl, fun ms b hp hs hb => ?_⟩
        rw [sortI_uniq hp hs]
        exact q_newF hb (rdsL_mk_ints _) q
      · cases e
    · cases e
  · cases e
def gSeqE (n : Nat) (gs : List D → Env → Option Env) : D → Env → Option Env
  | .tup ds, E => if ds.length = n then gs ds E else none
  | .lst ds, E => if ds.length = n then gs ds E else none
  | _, _ => none
end
theorem BOk.lt {G : Gb} {C : Ctx} {σ : L2.St} {E : Env} {Fs : Nat → List Addr} {bk : BK} {d : D} {v : V} {H1 : Hp} {a : Addr} {F : List Addr} (h : BOk σ C H1 E Fs bk d v (a :: F)) : BOkL C H1 E Fs bk F := by
  have vw : ∀ {S}, Vw H1 E Fs S (a :: F) → Vw H1 E Fs S F := fun z b hb => z b (List.mem_cons_of_mem _ hb)
  cases bk with
  | pr b => exact ⟨fun b hb => h.1 b (List.mem_cons_of_mem _ hb), fun z b hb => h.2 z b (List.mem_cons_of_mem _ hb)⟩
  | ex k =>
    cases k with
    | own => exact ⟨(List.nodup_cons.mp h.1).2, vw h.2⟩
    | sub i => exact ⟨h.1, (List.sublist_cons_self a F).trans h.2⟩
    | ref i =>
      obtain ⟨m, e, _, e2⟩ := h
      exact ⟨⟨m, d, e⟩, by rw [← e2]; exact List.sublist_cons_self a F⟩
    | top S => exact vw h.1
    | vw S => exact vw h
section
variable {G : Gb} {X : Cx} {pos : Pos}
theorem PG.or {e : Expr} {t t' : TG} (h : PG X e t) (h' : PG X e t') : PG X e (fun v σ H Q => t v σ H Q ∨ t' v σ H Q) := ⟨fun pins s σ H v u Q I r q => q.elim (h.run pins s σ H v u Q I r) (h'.run pins s σ H v u Q I r)⟩
theorem vs_unp (x : XOk G X) {ro : Bool} {es : List Expr} {e : Expr} {M W : List Nat} {j n : Nat} {k : Kind} {f : EF} {gs : List D → Env → Option Env} {tpos : Pos} (he : VE G X e M k f) (h : VGs G X es (.ex k) W gs) (hn : (assignEach es X.env).length = n := by rfl) (hst : (assignEach es X.env).findIdx? (·.1) = none := by rfl)
    (hs : swapsWithSole [.Tuple es j tpos] e pos.line X.env = pure false := by rfl) (hw : swappedStores [.Tuple es j tpos] e X.env = pure none := by rfl) (h1 : (assignEach [.Tuple es j tpos] X.env).map (·.2) = [assign (.Tuple es j tpos) X.env] := by rfl) :
    VS G X ro (.Assign [.Tuple es j tpos] e pos) (sAsg f (gSeqE n gs)) := PS.imp (ps_asg he (PG.or (pg_tup x.calm h hn hst) (pg_unl x.calm h hn hst)) hs hw h1) fun N σ H ⟨C, E, Fs, R, o, e, q⟩ => by
  unfold sAsg at e
  split at e
  · rename_i d E1 e1
    split at e
    · rename_i E2 e2
      cases e
      refine ⟨C, E, Fs, R, d, E1, e1, fun v H' Fs' F R' s' r' k' => ?_⟩
      have bo : BOk σ C H E1 Fs' (.ex k) d v F := k'
      unfold gSeqE at e2
      split at e2
      · rename_i ds
        split at e2
        · rename_i hl
          obtain ⟨a, xs, rfl, h1, h2⟩ := rds_tup.mp r'
          rw [x.K]
          exact .inl ⟨a, xs, rfl, h1, by rw [rdsL_len h2]; exact hl, C, E1, Fs', H, F, ds, R', R.hn, h2, bo.l, E2, e2, fun σ2 Fs2 R2 _ => q σ2 H' Fs2 R2⟩
        · cases e2
      · rename_i ds
        split at e2
        · rename_i hl
          obtain ⟨a, xs, A, rfl, h1, h2, rfl⟩ := rds_lst.mp r'
          rw [x.K]
          exact .inr ⟨a, xs, rfl, SqL.of h1, by rw [rdsL_len h2]; exact hl, C, E1, Fs', H, A, ds, R', R.hn, h2, BOk.lt (G := G) bo, E2, e2, fun σ2 Fs2 R2 _ => q σ2 H' Fs2 R2⟩
        · cases e2
      · cases e2
    · cases e
  · cases e
def eAnd (f g : EF) : EF := fun E => match f E with
  | some (d, E') => (match d.tru with
    | some true => g E'
    | some false => some (d, E')
    | none => none)
  | none => none
def eOr (f g : EF) : EF := fun E => match f E with
  | some (d, E') => (match d.tru with
    | some true => some (d, E')
    | some false => g E'
    | none => none)
  | none => none
def eNot (f : EF) : EF := fun E => match f E with
  | some (d, E') => (match d.tru with
    | some b => some (.bl (!b), E')
    | none => none)
  | none => none
variable {a b e : Expr} {rest : List Expr} {M M' : List Nat} {k k' : Kind} {f g : EF}
theorem ve_one {op} (h : VE G X a M k f) : VE G X (.BoolOp op [a] pos) M k f := pe_one h
theorem ve_and (x : XOk G X) (ha : VE G X a M k f) (hb : VE G X (.BoolOp .And (b :: rest) pos) M' k' g) : VE G X (.BoolOp .And (a :: b :: rest) pos) (M ++ M') (kIf k k') (eAnd f g) := PE.imp (pe_andT ha hb) fun σ H Q ⟨C, E, Fs, R, d, E', e, q⟩ => by
  unfold eAnd at e
  split at e
  · rename_i d1 E1 e1
    refine ⟨C, E, Fs, R, d1, E1, e1, fun v H1 Fs1 F1 R1 s1 r1 k1 => ?_⟩
    rw [x.K]
    split at e
    · rename_i ht
      exact ⟨true, tru_of ht r1, by rw [if_pos rfl]; exact ⟨C, E1, Fs1, R1, d, E', e, fun v2 H2 Fs2 F2 R2 s2 r2 k2 => q v2 H2 Fs2 F2 R2 (s1.trans s2) r2 (kIf_r (k2.base s1.chg))⟩⟩
    · rename_i ht
      cases e
      exact ⟨false, tru_of ht r1, by rw [if_neg Bool.false_ne_true]; exact q v H1 Fs1 F1 R1 (s1.mono fun i hi => List.mem_append_left _ hi) r1 (kIf_l k1)⟩
    · cases e
  · cases e
theorem ve_or (x : XOk G X) (ha : VE G X a M k f) (hb : VE G X (.BoolOp .Or (b :: rest) pos) M' k' g) : VE G X (.BoolOp .Or (a :: b :: rest) pos) (M ++ M') (kIf k k') (eOr f g) := PE.imp (pe_orT ha hb) fun σ H Q ⟨C, E, Fs, R, d, E', e, q⟩ => by
  unfold eOr at e
  split at e
  · rename_i d1 E1 e1
    refine ⟨C, E, Fs, R, d1, E1, e1, fun v H1 Fs1 F1 R1 s1 r1 k1 => ?_⟩
    rw [x.K]
    split at e
    · rename_i ht
      cases e
      exact ⟨true, tru_of ht r1, by rw [if_pos rfl]; exact q v H1 Fs1 F1 R1 (s1.mono fun i hi => List.mem_append_left _ hi) r1 (kIf_l k1)⟩
    · rename_i ht
      exact ⟨false, tru_of ht r1, by rw [if_neg Bool.false_ne_true]; exact ⟨C, E1, Fs1, R1, d, E', e, fun v2 H2 Fs2 F2 R2 s2 r2 k2 => q v2 H2 Fs2 F2 R2 (s1.trans s2) r2 (kIf_r (k2.base s1.chg))⟩⟩
    · cases e
  · cases e
theorem ve_not (x : XOk G X) (ha : VE G X a M k f) : VE G X (.UnaryOp .Not a pos) M .own (eNot f) := PE.imp (pe_notT ha) fun σ H Q ⟨C, E, Fs, R, d, E', e, q⟩ => by
  unfold eNot at e
  split at e
  · rename_i d1 E1 e1
    refine ⟨C, E, Fs, R, d1, E1, e1, fun v H1 Fs1 F1 R1 s1 r1 k1 => ?_⟩
    rw [x.K]
    split at e
    · rename_i bb ht
      cases e
      exact ⟨bb, tru_of ht r1, q _ H1 Fs1 [] R1 s1 (rds_bl.mpr ⟨rfl, rfl⟩) ⟨List.nodup_nil, fun a ha => by cases ha⟩⟩
    · cases e
  · cases e
end
end
end VL
set_option maxHeartbeats 8000000
namespace VL
noncomputable section
open PySem PySem.Spec PyProof.Rows L2
open GxR (TabB Tabbed)
variable [LamT]
section
variable {G : Gb} {X : Cx}
def gSetIt (i : Nat) (k : Kind) (pf : PF) (g : EF) : D → Env → Option Env := fun d E1 => match pf E1 with
  | some (p, E2) => if hasP E2 i p then (match g E2 with
    | some (ix, E3) => if storable k d && ix.atom then (match E3[i]? with
      | some (some (m, dd)) => if m.w then (match getP p dd with
        | some sd => (match opSet sd [ix, d] with
          | some (sd', _) => (match setP p dd sd' with
            | some d' => some (E3.set i (some (m, d')))
            | none => none)
          | none => none)
        | none => none) else none
      | _ => none) else none
    | none => none) else none
  | none => none
def tGSet (G : Gb) (i : Nat) (k : Kind) (pf : PF) (g : EF) : TG := fun vv σ H1 Qn => ∃ C E1 Fs1 Ha B d, Rel G C H1 σ E1 Fs1 ∧ (∀ a, Ha a = none → C.H0 a = none ∧ ¬ C.T a) ∧ Rds G H1 d vv B ∧ KOk σ Ha E1 Fs1 k d vv B ∧
  ∃ E', gSetIt i k pf g d E1 = some E' ∧ ∀ H' Fs', Rel G C H' σ E' Fs' → Qn σ H'
theorem pg_setIt {o ix : Expr} {i : Nat} {k k' : Kind} {g : EF} {pf : PF} {pos' : Pos} (x : XOk G X) (ho : VP G X o [] i pf) (hi : VE G X ix [] k' g)
    (ha : ∀ v, assign (.Subscript o ix pos') X.env v = (do
      let ov ← holding [v] (eval o X.env)
      let iv ← holding [v, ov] (eval ix X.env)
      standAt pos'
      holding [v, ov, iv] (setItem ov iv v)
      release [v, ov, iv] []) := by intro _; rfl) : PG X (.Subscript o ix pos') (tGSet G i k pf g) :=
  PG.imp (pg_sub ho hi (pset_all x) ha) fun vv σ H1 Qn ⟨C, E1, Fs1, Ha, B, d, R1, hn, rv, kv, E', e, q⟩ => by
    unfold gSetIt at e
    split at e
    · rename_i p E2 e2
      split at e
      · rename_i hh
        split at e
        · rename_i ixd E3 e3
          split at e
          · rename_i hst
            split at e
            · rename_i m dd e4
              split at e
              · rename_i hw
                split at e
                · rename_i sd e5
                  split at e
                  · rename_i sd' rr e6
                    split at e
                    · rename_i d' e7
                      cases e
                      rw [Bool.and_eq_true] at hst
                      refine ⟨C, E1, Fs1, R1, p, E2, e2, hasP_of hh, fun H2 Fs2 m1 d1 v sd1 sv Pf A S R2 s2 em ev hf => ?_⟩
                      refine ⟨C, E2, Fs2, R2, ixd, E3, e3, fun iv H3 Fs3 F3 R3 s3 r3 k3 => ?_⟩
                      obtain ⟨rv2, kv2⟩ := kv.step R1 rv s2 (safe_nil k)
                      obtain ⟨rv3, kv3⟩ := kv2.step R2 rv2 s3 (safe_nil k)
                      have em3 : E3[i]? = some (some (m1, d1)) := by rw [s3.env i (by simp)]; exact em
                      rw [e4] at em3
                      cases em3
                      have fs3 := s3.fs i (by simp)
                      have hf3 := Foc.chg s3.chg (fun a _ ⟨j, hj, _⟩ => by cases hj) hf
                      rw [← fs3] at hf3
                      have g1 := foc_det hf3
                      rw [e5] at g1
                      cases g1
                      obtain ⟨eF, rd3⟩ := foc_rds hf3
                      have nd3 := (R3.nd i m dd e4 hw).1
                      have ndA : A.Nodup := by
                        rw [eF] at nd3
                        exact ((List.sublist_append_left A S).trans (List.sublist_append_right Pf _)).nodup nd3
                      have inA : ∀ a ∈ A, a ∈ Fs3 i := fun a ha => by rw [eF]; simp [ha]
                      obtain ⟨ndB, loB⟩ := storL_ok (C := C) (show storL [k] [d] = true from hst.1) (G := G) (σ := σ) (H := Ha) (H1 := H3) (E := E3) (Fs := Fs3) (vs := [vv]) (FF := [B]) ⟨d, [], vv, [], B, [], rfl, rfl, rfl, rv3, kv3, fun j B' hB => by simp at hB, rfl, rfl, rfl⟩
                      simp only [List.flatten_cons, List.flatten_nil, List.append_nil] at ndB loB
                      have eI := Rds.atom _ _ _ hst.2 r3
                      subst eI
                      have ofB : ∀ {a}, a ∈ B → a ∉ Fs3 i := fun {a} hb hm => (loB a hb).2 i ⟨m, dd, e4⟩ hm
                      have fin4 : ∀ (v3 : V) (H4 : Hp) (A' : List Addr), Rds G H4 sd' sv A' → Rds G H4 rr v3 [] → A'.Nodup → (∀ a ∈ A', a ∈ A ∨ a ∈ B) → Chg (fun a => a ∈ A) H3 H4 → Qn σ H4 := fun v3 H4 A' rA' rR ndA' inA' c4 => by
                        have rd4 := foc_set hf3 nd3 c4 rA' e7
                        have c4' : Chg (fun a => a ∈ Fs3 i) H3 H4 := c4.mono fun q o _ h => inA q h
                        have ndN : (Pf ++ (A' ++ S)).Nodup := by
                          have ndF' := nd3
                          rw [eF, List.nodup_append] at ndF'
                          obtain ⟨n1, n2, n3⟩ := ndF'
                          rw [List.nodup_append] at n2
                          obtain ⟨_, n5, n6⟩ := n2
                          rw [List.nodup_append]
                          refine ⟨n1, ?_, fun a ha b hb eab => ?_⟩
                          · rw [List.nodup_append]
                            refine ⟨ndA', n5, fun a ha b hb eab => ?_⟩
                            subst eab
                            rcases inA' a ha with y | y
                            · exact n6 a y a hb rfl
                            · exact ofB y (by rw [eF]; simp [hb])
                          · subst eab
                            rcases List.mem_append.mp hb with z | z
                            · rcases inA' a z with y | y
                              · exact n3 a ha a (by simp [y]) rfl
                              · exact ofB y (by rw [eF]; simp [ha])
                            · exact n3 a ha a (by simp [z]) rfl
                        refine q H4 _ (R3.write e4 hw ev c4' rd4 ndN fun a ha => ?_)
                        rw [eF]
                        simp only [List.mem_append] at ha ⊢
                        have byB : a ∈ B → C.H0 a = none ∧ ¬ C.T a ∧ ∀ j, j ≠ i → Asg E3 j → a ∉ Fs3 j := fun y => ⟨(hn a (loB a y).1).1, (hn a (loB a y).1).2, fun j _ hj => (loB a y).2 j hj⟩
                        rcases ha with z | z | z
                        · exact .inl (.inl z)
                        · rcases inA' a z with y | y
                          · exact .inl (.inr (.inl y))
                          · exact .inr (byB y)
                        · exact .inl (.inr (.inr z))
                      obtain ⟨_, _, ez, fin⟩ := mut_set H3 sd sv A [ixd, d] [iv, vv] B (fun _ H' => Qn σ H') sd' rr rd3 (rdsL_cons.mpr ⟨iv, _, [], B, rfl, rfl, r3, rdsL_cons.mpr ⟨vv, [], B, [], rfl, by simp, rv3, rdsL_nil.mpr ⟨rfl, rfl⟩⟩⟩) ndA ndB (fun a ha hb => ofB hb (inA a ha)) e6 (by
                          unfold opSet at e6
                          split at e6
                          · split at e6
                            · cases e6
                              rfl
                            · cases e6
                          · split at e6
                            · split at e6
                              · cases e6
                                rfl
                              · cases e6
                            · cases e6
                          · cases e6) fin4
                      cases ez
                      exact fin
                    · cases e
                  · cases e
                · cases e
              · cases e
            · cases e
          · cases e
        · cases e
      · cases e
    · cases e
def sPairSet (i : Nat) (pf : PF) (g : EF) (j : Nat) (f : EF) : SF := fun E => match f E with
  | some (.tup [.int a, .int b], E1) => (match gSetIt i .own pf g (.int a) E1 with
    | some E2 => if j < E2.length then some (.nx (E2.set j (some (.own, .int b)))) else none
    | none => none)
  | _ => none
theorem vs_pairSet {ro : Bool} {o ix e : Expr} {M : List Nat} {i j kk : Nat} {k k' : Kind} {f g : EF} {pf : PF} {y : Str} {pos pos' py tpos : Pos} (x : XOk G X) (he : VE G X e M k f) (ho : VP G X o [] i pf) (hi : VE G X ix [] k' g)
    (hN : X.N.Nodup) (hj : X.N[j]? = some y) (hx : Loc X.env.scope y) (hf : X.fn y = true ∨ X.env.scope.names.lookup y = some .local := by first | exact .inl rfl | exact .inr rfl | assumption)
    (ha : ∀ v, assign (.Subscript o ix pos') X.env v = (do
      let ov ← holding [v] (eval o X.env)
      let iv ← holding [v, ov] (eval ix X.env)
      standAt pos'
      holding [v, ov, iv] (setItem ov iv v)
      release [v, ov, iv] []) := by intro _; rfl)
    (hn : (assignEach [.Subscript o ix pos', .Name y py] X.env).length = 2 := by rfl) (hst : (assignEach [.Subscript o ix pos', .Name y py] X.env).findIdx? (·.1) = none := by rfl)
    (hs : swapsWithSole [.Tuple [.Subscript o ix pos', .Name y py] kk tpos] e pos.line X.env = pure false := by rfl) (hw : swappedStores [.Tuple [.Subscript o ix pos', .Name y py] kk tpos] e X.env = pure none := by rfl) (h1 : (assignEach [.Tuple [.Subscript o ix pos', .Name y py] kk tpos] X.env).map (·.2) = [assign (.Tuple [.Subscript o ix pos', .Name y py] kk tpos) X.env] := by rfl) :
    VS G X ro (.Assign [.Tuple [.Subscript o ix pos', .Name y py] kk tpos] e pos) (sPairSet i pf g j f) :=
  PS.imp (ps_asg he (pg_tup x.calm (pgs_cons (pg_setIt (k := .own) x ho hi ha) (pgs_cons (pg_name hN hj hx hf) pgs_nil)) hn hst) hs hw h1) fun N σ H ⟨C, E, Fs, R, o, e, q⟩ => by
    unfold sPairSet at e
    split at e
    · rename_i a b E1 e1
      split at e
      · rename_i E2 e2
        split at e
        · rename_i hl
          cases e
          refine ⟨C, E, Fs, R, _, E1, e1, fun v H' Fs' F R' s' r' k' => ?_⟩
          obtain ⟨t, xs, rfl, h1, h2⟩ := rds_tup.mp r'
          obtain ⟨x1, x2, A, B, rfl, rfl, h3, h4⟩ := rdsL2 h2
          obtain ⟨rfl, rfl⟩ := rds_int.mp h3
          obtain ⟨rfl, rfl⟩ := rds_int.mp h4
          rw [x.K]
          refine ⟨t, _, rfl, h1, rfl, _, _, rfl, C, E1, Fs', H, [], .int a, R', R.hn, rds_int.mpr ⟨rfl, rfl⟩, ⟨List.nodup_nil, fun z hz => by cases hz⟩, E2, e2, fun H2 Fs2 R2 => ⟨_, _, rfl, rfl, ?_⟩⟩
          exact q _ H2 _ (R2.setOwn (H1 := H2) hl R2.hn (rds_int.mpr ⟨rfl, rfl⟩) List.nodup_nil (fun z hz => by cases hz))
        · cases e
      · cases e
    · cases e
end
end
end VL
set_option maxHeartbeats 4000000
namespace VL
noncomputable section
open PySem PySem.Spec PyProof.Rows L2
open GxR (TabB Tabbed)
variable [LamT]
theorem XOk.blk {G : Gb} {X : Cx} (x : XOk G X) {s : Shared} {H : Hp} {scope : Scope} {env : PySem.Env} {fp : List Addr} : XOk G (X.blk s H scope env fp) := ⟨x.K, x.calm, x.un⟩
theorem XOk.un64 {G : Gb} {X : Cx} (x : XOk G X) : X.A.units + 64 < cLine := by have := x.un; omega
theorem mt_popAll {X : Cx} : MtR X "list.pop" rPopAll := fun pins s σ H x xs v us Q I r1 r2 h => h.elim (mt_pop pins s σ H x xs v us Q I r1 r2) (mt_popAt pins s σ H x xs v us Q I r1 r2)
section
variable {G : Gb} {X : Cx}
def pEq (neg : Bool) : List D → Option D
  | [.str a, .str b] => some (.bl (if neg then !decide (a = b) else decide (a = b)))
  | [.bl a, .bl b] => some (.bl (if neg then !decide (a = b) else decide (a = b)))
  | ds => pEqv neg ds
theorem op_eqAll (x : XOk G X) : OpR X (compareOp .Eq) (fun x y H Q => rEqD X.K x y H Q ∨ rEq x y H Q) := (op_eqD x.un64).or op_eq
theorem op_neAll (x : XOk G X) : OpR X (compareOp .NotEq) (fun x y H Q => rNeD X.K x y H Q ∨ rNe x y H Q) := (op_neD x.un64).or op_ne
theorem dec_strV {a b : Str} : decide (V.str a = V.str b) = decide (a = b) := by
  by_cases h : a = b <;> simp [h]
theorem dec_blV {a b : Bool} : decide (V.bl a = V.bl b) = decide (a = b) := by
  by_cases h : a = b <;> simp [h]
theorem prim_eqA (hK : X.K = G.K) : PrimF G (r2 fun x y H Q => rEqD X.K x y H Q ∨ rEq x y H Q) (pEq false) := fun H vs ds F Q d tb r e q => by
  unfold pEq at e
  split at e
  · cases e
    obtain ⟨x, y, A, B, rfl, rfl, h1, h2⟩ := rdsL2 r
    obtain ⟨rfl, rfl⟩ := rds_str.mp h1
    obtain ⟨rfl, rfl⟩ := rds_str.mp h2
    refine ⟨_, _, rfl, .inr ⟨rfl, ?_⟩⟩
    rw [dec_strV]
    exact q_atom (hBl _) q
  · cases e
    obtain ⟨x, y, A, B, rfl, rfl, h1, h2⟩ := rdsL2 r
    obtain ⟨rfl, rfl⟩ := rds_bl.mp h1
    obtain ⟨rfl, rfl⟩ := rds_bl.mp h2
    refine ⟨_, _, rfl, .inr ⟨rfl, ?_⟩⟩
    rw [dec_blV]
    exact q_atom (hBl _) q
  · obtain ⟨x, y, h, h1⟩ := prim_eq hK H vs _ F Q d tb r e q
    exact ⟨x, y, h, .inl h1⟩
theorem prim_neA (hK : X.K = G.K) : PrimF G (r2 fun x y H Q => rNeD X.K x y H Q ∨ rNe x y H Q) (pEq true) := fun H vs ds F Q d tb r e q => by
  unfold pEq at e
  split at e
  · cases e
    obtain ⟨x, y, A, B, rfl, rfl, h1, h2⟩ := rdsL2 r
    obtain ⟨rfl, rfl⟩ := rds_str.mp h1
    obtain ⟨rfl, rfl⟩ := rds_str.mp h2
    refine ⟨_, _, rfl, .inr ⟨rfl, ?_⟩⟩
    rw [dec_strV]
    exact q_atom (hBl _) q
  · cases e
    obtain ⟨x, y, A, B, rfl, rfl, h1, h2⟩ := rdsL2 r
    obtain ⟨rfl, rfl⟩ := rds_bl.mp h1
    obtain ⟨rfl, rfl⟩ := rds_bl.mp h2
    refine ⟨_, _, rfl, .inr ⟨rfl, ?_⟩⟩
    rw [dec_blV]
    exact q_atom (hBl _) q
  · obtain ⟨x, y, h, h1⟩ := prim_ne hK H vs _ F Q d tb r e q
    exact ⟨x, y, h, .inl h1⟩
def lRef (i : Nat) (g : LF) : LF := fun E => match E[i]? with
  | some (some _) => (match g E with
    | some (ds, E') => (match E'[i]? with
      | some (some (_, d)) => some (d :: ds, E')
      | _ => none)
    | none => none)
  | _ => none
def eOwn (k : Kind) (f : EF) : EF := fun E => match f E with
  | some (d, E') => if storable k d then some (d, E') else none
  | none => none
theorem flat_1x {H : Hp} {d : D} {v : V} {F : List Addr} (h : d.flat = true) (r : Rds G H d v F) : d.node = true ∧ ∃ a, F = [a] := by
  cases d with
  | lst ds =>
    obtain ⟨a, us, A, rfl, h3, h4, rfl⟩ := rds_lst.mp r
    have e := RdsL.atom ds us A (by unfold D.flat at h; exact h) h4
    subst e
    exact ⟨rfl, a, rfl⟩
  | dct ks ds =>
    obtain ⟨a, us, A, rfl, h3, _, h4, rfl⟩ := rds_dct.mp r
    have e := RdsL.atom ds _ A (by unfold D.flat at h; exact h) h4
    subst e
    exact ⟨rfl, a, rfl⟩
  | non => cases h
  | bl _ => cases h
  | int _ => cases h
  | str _ => cases h
  | tup _ => cases h
  | obj _ _ _ => cases h
  | scr _ => cases h
  | any => cases h
  | exn _ _ _ => cases h
theorem ve_own {e : Expr} {M : List Nat} {k : Kind} {f : EF} (h : VE G X e M k f) : VE G X e M .own (eOwn k f) := PE.imp h fun σ H Q ⟨C, E, Fs, R, d, E', e, q⟩ => by
  unfold eOwn at e
  split at e
  · rename_i d1 E1 e1
    split at e
    · rename_i hs
      cases e
      refine ⟨C, E, Fs, R, d, E', e1, fun v H' Fs' F R' s' r' k' => q v H' Fs' F R' s' r' ?_⟩
      unfold storable at hs
      rw [Bool.or_eq_true] at hs
      rcases hs with hs | hs
      · have eF := Rds.atom d v F hs r'
        subst eF
        exact ⟨List.nodup_nil, fun a ha => by cases ha⟩
      · cases k with
        | own => exact k'
        | top S =>
          have hf : d.flat = true := hs
          obtain ⟨hn, a, eF⟩ := flat_1x (d := d) hf r'
          subst eF
          refine ⟨by simp, fun b hb => .inr ?_⟩
          rw [List.mem_singleton.mp hb]
          exact k'.2 a [] hn rfl
        | sub i => cases hs
        | vw S => cases hs
        | ref i => cases hs
    · cases e
  · cases e
def sPar2 (i j : Nat) (l : LF) : SF := fun E => match l E with
  | some ([d, d'], E') => if i < E'.length ∧ j < E'.length then some (.nx ((E'.set i (some (.own, d))).set j (some (.own, d')))) else none
  | _ => none
theorem vs_par {ro : Bool} {i j : Nat} {xa ya : Str} {a b : Expr} {M : List Nat} {l : LF} {px py pt pos : Pos} {kt k2 pt2} (x : XOk G X) (hN : X.N.Nodup) (hi : X.N[i]? = some xa) (hj : X.N[j]? = some ya) (hij : i ≠ j)
    (hx : X.env.scope.names.lookup xa = some .local) (hy : X.env.scope.names.lookup ya = some .local) (ha : VL G X [a, b] M [.own, .own] l)
    (hw : swappedStores [.Tuple [.Name xa px, .Name ya py] kt pt] (.Tuple [a, b] k2 pt2) X.env = pure (some [xa, ya]))
    (hs : swapsWithSole [.Tuple [.Name xa px, .Name ya py] kt pt] (.Tuple [a, b] k2 pt2) pos.line X.env = pure false := by rfl) :
    VS G X ro (.Assign [.Tuple [.Name xa px, .Name ya py] kt pt] (.Tuple [a, b] k2 pt2) pos) (sPar2 i j l) :=
  PS.imp (ps_par x.calm hN hi hj hij hx hy ha hw hs) fun N σ H ⟨C, E, Fs, R, o, e, q⟩ => by
    unfold sPar2 at e
    split at e
    · rename_i d d' E' e1
      split at e
      · rename_i hl
        cases e
        refine ⟨C, E, Fs, R, [d, d'], E', e1, fun vs H' Fs' FF R' s' a' => ?_⟩
        obtain ⟨d1, ds1, v, vs1, F, FF1, h1, rfl, rfl, rd1, k1, sep, a2⟩ := a'
        cases h1
        obtain ⟨d2, ds2, w, vs2, F2, FF2, h2, rfl, rfl, rd2, k2, _, a3⟩ := a2
        cases h2
        obtain ⟨_, rfl, rfl⟩ := a3
        refine ⟨v, w, rfl, ?_⟩
        have own : ∀ {d : D} {v : V} {F : List Addr}, KOk σ H E' Fs' .own d v F → ∀ a ∈ F, Loose H E' Fs' a := fun k a ha => (k.2 a ha).elim (fun ⟨_, z, _⟩ => by cases z) id
        have R1 := R'.setOwn (H1 := H) hl.1 R.hn rd1 k1.1 (own k1)
        have R2 := R1.setOwn (H1 := H) (i := j) (by rw [List.length_set]; exact hl.2) R.hn rd2 k2.1 (fun a ha => ⟨(own k2 a ha).1, fun s hs' hm => by
          by_cases z : s = i
          · subst z
            rw [FsSet, if_pos rfl] at hm
            exact sep 0 F2 rfl (.inl rfl) a hm ha
          · rw [FsSet, if_neg z] at hm
            obtain ⟨m, dd, es⟩ := hs'
            rw [List.getElem?_set_ne (Ne.symm z)] at es
            exact (own k2 a ha).2 s ⟨m, dd, es⟩ hm⟩)
        exact q _ _ _ R2
      · cases e
    · cases e
def D.tyn : D → Option String
  | .non => some "NoneType"
  | .bl _ => some "bool"
  | .int _ => some "int"
  | .str _ => some "str"
  | .tup _ => some "tuple"
  | .lst _ => some "list"
  | .dct _ _ => some "dict"
  | .scr _ => some "list"
  | .obj _ _ _ => none
  | .any => none
  | .exn _ _ _ => none
def isiB (a T : String) : Bool := decide (a = T) || (decide (a = "bool") && decide (T = "int"))
def isiTs : List String := ["int", "bool", "list", "tuple", "dict", "str"]
def pIsi (T : String) : List D → Option D
  | [d] => d.tyn.map fun a => .bl (isiB a T)
  | _ => none
theorem isi_kit : ∀ a ∈ ["NoneType", "bool", "int", "str", "tuple", "list", "dict"], ∀ T ∈ isiTs, kitB a T = some (isiB a T) := by decide +kernel
theorem tyn_mem {d : D} {a : String} (e : d.tyn = some a) : a ∈ ["NoneType", "bool", "int", "str", "tuple", "list", "dict"] := by
  cases d <;> simp [D.tyn] at e <;> subst e <;> decide
theorem rds_ty {H : Hp} {d : D} {v : V} {F : List Addr} {a : String} (e : d.tyn = some a) (r : Rds G H d v F) : TyX G.K H v (.type a) := by
  cases d <;> simp only [D.tyn, Option.some.injEq, reduceCtorEq] at e <;> subst e
  · obtain ⟨rfl, _⟩ := rds_non.mp r
    exact .base .non
  · obtain ⟨rfl, _⟩ := rds_bl.mp r
    exact .base (.bl _)
  · obtain ⟨rfl, _⟩ := rds_int.mp r
    exact .base (.int _)
  · obtain ⟨rfl, _⟩ := rds_str.mp r
    exact .base (.str _)
  · obtain ⟨a, us, rfl, h3, h4⟩ := rds_tup.mp r
    rcases h3 with (h | ⟨o, h⟩) | ⟨o, its, n, h, hc, _⟩
    · exact .base (.tup h)
    · exact .fTuple h
    · exact .kTuple h hc
  · obtain ⟨a, us, A, rfl, h3, h4, rfl⟩ := rds_lst.mp r
    exact .base (.lst h3)
  · obtain ⟨a, us, A, rfl, h3, _, h4, rfl⟩ := rds_dct.mp r
    exact .base (.dK h3)
  · obtain ⟨a, rfl, h3, rfl⟩ := rds_scr.mp r
    rcases h3 with ⟨o, h⟩ | ⟨o, its, n, h, hc, _⟩
    · exact .base (.frz h)
    · exact .kList h hc
theorem prim_isi (hK : X.K = G.K) {T : String} (hT : T ∈ isiTs) : PrimF G (fun vs H Q => ∃ x, vs = [x] ∧ rIsi X.K [x, .ty T] H Q) (pIsi T) := fun H vs ds F Q d tb r e q => by
  rw [hK]
  unfold pIsi at e
  split at e
  · rename_i d1
    cases ey : d1.tyn with
    | none => rw [ey] at e; cases e
    | some a =>
      rw [ey] at e
      cases e
      obtain ⟨x, rfl, h1⟩ := rdsL1 r
      exact ⟨x, rfl, x, .ty T, .type a, .type T, isiB a T, rfl, .ty T, rds_ty ey h1, kit_ty (isi_kit a (tyn_mem ey) T hT), q_atom (hBl _) q⟩
  · cases e
theorem ve_isi {a : Expr} {M : List Nat} {k : Kind} {f : EF} {T : String} {n : Str} {q q2 pos : Pos} (x : XOk G X) (hg : Gl X "isinstance") (hm : X.mg "isinstance" = none) (hg2 : Gl X n) (hm2 : X.mg n = none) (hT : T ∈ isiTs) (hv2 : bootBuiltins n = some (.type T)) (ha : VE G X a M k f)
    (hn : n ≠ "__name__" := by decide) (hd : (n == ("__debug__" : Str)) = false := by decide)
    (he : starEach [a, .Name n q2] X.env = (false, eval a X.env) :: starEach [.Name n q2] X.env := by rfl) (hpl : (backTo pos (starEach [.Name n q2] X.env)).any (·.1) = false := by rfl) (hs2 : starEach [.Name n q2] X.env = (false, eval (.Name n q2) X.env) :: starEach [] X.env := by rfl) :
    VE G X (.Call (.Name "isinstance" q) [a, .Name n q2] [] pos) M .own (ePrim (pIsi T) (lCons f lNil)) :=
  PE.imp (pe_callB call_isi hg hm (by decide +kernel) (pa_cons ha (pa_cons (pe_bltn (v := .ty T) hg2 hm2 hv2 rfl hn hd) pa_nil hs2) he) (by decide) (by decide) he hpl) fun σ H Q h => (one_of (prim_own (prim_isi x.K hT) h)).mono fun x H1 ⟨y, e, q⟩ => by
    cases e
    exact q
end
end
end VL
set_option maxHeartbeats 4000000
namespace VL
noncomputable section
open PySem PySem.Spec PyProof.Rows L2
open GxR (TabB Tabbed)
variable [LamT]
section
variable {G : Gb} {X : Cx}
def eChain (o1 o2 : Int → Int → Bool) (f g h : EF) : EF := fun E => match lCons f (lCons g lNil) E with
  | some ([.int i, .int j], E2) => if o1 i j then (match h E2 with
    | some (.int k, E3) => some (.bl (o2 j k), E3)
    | _ => none) else some (.bl false, E2)
  | _ => none
section
variable {a b c : Expr} {op op' : CmpOp} {o1 o2 : Int → Int → Bool} {M M' M3 : List Nat} {k k' k3 : Kind} {f g h : EF} {pos : Pos}
theorem chain_of {σ : L2.St} {H : Hp} {Q : VK} (sf : k.safe M' = true) (hq : tV G ((M ++ M') ++ M3) .own (eChain o1 o2 f g h) σ H Q) : tChain (rI0 fun i j => .bl (o1 i j)) (rI0 fun i j => .bl (o2 i j)) (tV G M k f) (tV G M' k' g) (tV G M3 k3 h) σ H Q := by
  obtain ⟨C, E, Fs, R, d, E', e, q⟩ := hq
  unfold eChain at e
  split at e
  · rename_i i j E2 e1
    refine (two_of (R := fun vs H' => ∃ x y, vs = [x, y] ∧ x = .int i ∧ y = .int j ∧ (if o1 i j = true then tV G M3 k3 h σ H' fun w' H4 => (rI0 fun i j => .bl (o2 i j)) (.int j) w' H4 Q else Q (.bl false) H')) sf ⟨C, E, Fs, R, _, _, e1, fun vs H' Fs' FF R' s' a' => ?_⟩).mono fun x H1 q => q.mono fun y H2 ⟨_, _, e, e1, e2, q⟩ => by
      cases e
      subst e2
      exact ⟨i, j, e1, rfl, _, rfl, q⟩
    obtain ⟨x, y, A, B, rfl, _, h1, h2⟩ := rdsL2 a'.rds
    refine ⟨x, y, rfl, (rds_int.mp h1).1, (rds_int.mp h2).1, ?_⟩
    split at e
    · rename_i ho
      rw [if_pos ho]
      split at e
      · rename_i kk E3 e3
        cases e
        refine ⟨C, E2, Fs', R', .int kk, _, e3, fun v H3 Fs3 F3 R3 s3 r3 _ => ⟨j, kk, rfl, (rds_int.mp r3).1, ?_⟩⟩
        exact q _ H3 Fs3 [] R3 (s'.trans s3) (hBl _ _ _) ⟨List.nodup_nil, fun a ha => by cases ha⟩
      · cases e
    · rename_i ho
      rw [if_neg ho]
      cases e
      exact q _ H' Fs' [] R' (s'.mono fun i hi => List.mem_append_left _ hi) (hBl _ _ _) ⟨List.nodup_nil, fun a ha => by cases ha⟩
  · cases e
theorem ve_chain (ho : OpR X (compareOp op) (rI0 fun i j => .bl (o1 i j))) (ho' : OpR X (compareOp op') (rI0 fun i j => .bl (o2 i j))) (ha : VE G X a M k f) (hb : VE G X b M' k' g) (hc : VE G X c M3 k3 h) (sf : k.safe M' = true := by rfl) (hm : lastMarks [op, op'] [b, c] = false := by with_unfolding_all rfl) :
    VE G X (.Compare a [op, op'] [b, c] pos) ((M ++ M') ++ M3) .own (eChain o1 o2 f g h) := PE.imp (pe_chain ho ho' ha hb hc hm) fun σ H Q hq => chain_of sf hq
theorem vt_chain (ho : OpR X (compareOp op) (rI0 fun i j => .bl (o1 i j))) (ho' : OpR X (compareOp op') (rI0 fun i j => .bl (o2 i j))) (ha : VE G X a M k f) (hb : VE G X b M' k' g) (hc : VE G X c M3 k3 h) (sf : k.safe M' = true := by rfl) (hm : lastMarks [op, op'] [b, c] = false := by with_unfolding_all rfl) :
    VT G X (.Compare a [op, op'] [b, c] pos) ((M ++ M') ++ M3) (toT (eChain o1 o2 f g h)) := PT.imp (pt_chain ho ho' ha hb hc hm) fun σ H Q ⟨C, E, Fs, R, b, E', e, q⟩ => by
  unfold toT at e
  split at e
  · rename_i bb E1 e1
    cases e
    refine chain_of sf ⟨C, E, Fs, R, .bl b, _, e1, fun v H' Fs' F R' s' r' _ => ⟨b, (rds_bl.mp r').1, q H' Fs' R' s'⟩⟩
  · cases e
end
def sAug (op : Int → Int → Int) (i : Nat) (f : EF) : SF := fun E => match E[i]? with
  | some (some (_, .int a)) => (match f E with
    | some (.int b, E') => if i < E'.length then some (.nx (E'.set i (some (.own, .int (op a b))))) else none
    | _ => none)
  | _ => none
def sAugIt (op : Int → Int → Int) (i : Nat) (g f : EF) : SF := fun E => match E[i]? with
  | some (some (m, .lst ds)) => if m.w then (match g E with
    | some (.int j, E1) => (match f E1 with
      | some (.int b, E2) => (if 0 ≤ j then (match ds[j.toNat]? with
        | some (.int a) => some (.nx (E2.set i (some (m, .lst (ds.set j.toNat (.int (op a b)))))))
        | _ => none) else none)
      | _ => none)
    | _ => none) else none
  | _ => none
def rGetL : V → V → Hp → VK → Prop := fun o i H Q => ∃ p xs k v, o = .ref p ∧ i = .int k ∧ H p = some (.lst xs) ∧ 0 ≤ k ∧ xs[k.toNat]? = some v ∧ Q v H
theorem get_list : PGet X rGetL := by
  intro pins s σ H o i ov iv Q I ro ri h
  obtain ⟨p, xs, k, v, rfl, rfl, hp, h0, hv, q⟩ := h
  cases ro
  obtain ⟨t, rfl⟩ := ri
  obtain ⟨its, r, pl, hz⟩ := I.list (SqL.of hp)
  obtain ⟨w, ew, rw'⟩ := r.get hv
  have hl := r.length
  have hn := line63
  have hk : k.toNat < its.length := by
    have := (List.getElem?_eq_some_iff.mp ew).1
    exact this
  exact wpAny_getItem_list pl.isList h0 (by omega) (by simpa using ew) ⟨v, H, I, rw', q⟩
theorem ixN_of {n : Nat} {k : Int} (h0 : 0 ≤ k) (h1 : k.toNat < n) : ixN n k = some k.toNat := by
  unfold ixN
  rw [if_pos h0, if_pos (by omega)]
theorem vs_augIt {ro : Bool} {i : Nat} {o ix e : Expr} {op : Operator} {oo : Int → Int → Int} {k k' : Kind} {g f : EF} {pos tpos : Pos} (x : XOk G X) (hp : PIp X op (ipI oo)) (ho : PE X o (tVar i)) (hi : VE G X ix [] k g) (he : VE G X e [] k' f)
    (ha : ∀ ov iv new, augStore ix ov iv new = (do holding [new, ov, iv] (setItem ov iv new); release [new, ov, iv] []; pure .next) := by intros; rfl) : VS G X ro (.AugAssign (.Subscript o ix tpos) op e pos) (sAugIt oo i g f) :=
  PS.imp (ps_augS (ve_ref (G := G) ho) hi get_list he hp set_list ha) fun N σ H ⟨C, E, Fs, R, o', e, q⟩ => by
    unfold sAugIt at e
    split at e
    · rename_i m ds e0
      split at e
      · rename_i hw
        split at e
        · rename_i j E1 e1
          split at e
          · rename_i b E2 e2
            split at e
            · rename_i h0
              split at e
              · rename_i a ea
                cases e
                refine ⟨C, E, Fs, R, .lst ds, E, by unfold eVar; rw [e0], fun v H1 Fs1 F R1 s1 r1 k1 => ?_⟩
                obtain ⟨_, _, ev, rfl⟩ := k1
                refine ⟨C, E, Fs1, R1, .int j, E1, e1, fun iv H2 Fs2 F2 R2 s2 r2 _ => ?_⟩
                obtain ⟨rfl, _⟩ := rds_int.mp r2
                have ei1 : E1[i]? = some (some (m, .lst ds)) := by rw [s2.env i (by simp)]; exact e0
                obtain ⟨v2, ev2, rd2, _⟩ := R2.rd i m _ ei1
                rw [ev] at ev2
                cases ev2
                obtain ⟨p, us, A, rfl, hH, rdl, eF⟩ := rds_lst.mp rd2
                obtain ⟨u, A1, g1, g2, _⟩ := rdsL_get rdl ea
                obtain ⟨rfl, _⟩ := rds_int.mp g2
                refine ⟨p, us, j, .int a, rfl, rfl, hH, h0, g1, C, E1, Fs2, R2, .int b, E2, e2, fun y H3 Fs3 F3 R3 s3 r3 _ => ⟨a, b, rfl, (rds_int.mp r3).1, ?_⟩⟩
                have ei2 : E2[i]? = some (some (m, .lst ds)) := by rw [s3.env i (by simp)]; exact ei1
                obtain ⟨v3, ev3, rd3, _⟩ := R3.rd i m _ ei2
                rw [ev] at ev3
                cases ev3
                obtain ⟨p', us', A', ep, hH3, rdl3, eF3⟩ := rds_lst.mp rd3
                cases ep
                have hj : j.toNat < ds.length := (List.getElem?_eq_some_iff.mp ea).1
                have hl3 := rdsL_len rdl3
                refine ⟨p, us', j, j.toNat, rfl, rfl, hH3, ixN_of h0 (by rw [hl3]; exact hj), ?_⟩
                obtain ⟨x0, B1, B2, B3, t1, t2, t3, t4, eA⟩ := rdsL_split rdl3 ea
                have hB2 : B2 = [] := (rds_int.mp t3).2
                subst hB2
                have r' : RdsL G H3 (ds.set j.toNat (.int (oo a b))) (us'.set j.toNat (.int (oo a b))) (B1 ++ ([] ++ B3)) := by
                  refine rdsL_join hj (by rw [List.length_set]; exact hl3) (List.getElem?_set_self (by rw [hl3]; exact hj)) ?_ (hInt _ _ _) ?_
                  · rw [List.take_set_of_le (Nat.le_refl _)]
                    exact t2
                  · rw [List.drop_set_of_lt (Nat.lt_succ_self _)]
                    exact t4
                have ndF := (R3.nd i m _ ei2 hw).1
                rw [eF3] at ndF
                have c : Chg (fun z => z = p) H3 (upd H3 p (.lst (us'.set j.toNat (.int (oo a b))))) := Chg.put hH3 rfl rfl
                rw [List.nodup_cons] at ndF
                have eA' : A' = B1 ++ ([] ++ B3) := eA
                refine q _ _ _ (R3.write (d' := .lst (ds.set j.toNat (.int (oo a b)))) (F' := p :: A') ei2 hw ev (c.mono fun z o _ h => by rw [h, eF3]; exact List.mem_cons_self) (rds_lst.mpr ⟨p, _, A', rfl, upd_same, RdsL.chg c _ _ _ (fun z hz e => ndF.1 (by rw [← e]; exact hz)) (by rw [eA']; exact r'), rfl⟩) (List.nodup_cons.mpr ndF) fun z hz => .inl (by rw [eF3]; exact hz))
              · cases e
            · cases e
          · cases e
        · cases e
      · cases e
    · cases e
def pIsi2 (T T' : String) : List D → Option D
  | [d] => d.tyn.map fun a => .bl (isiB a T || isiB a T')
  | _ => none
def keyInts : List Key → Option (List Int)
  | [] => some []
  | .inl i :: ks => (keyInts ks).map (i :: ·)
  | _ => none
theorem keyInts_of : ∀ {ks : List Key} {ns : List Int}, keyInts ks = some ns → ks = ns.map Sum.inl
  | [], ns, e => by
    unfold keyInts at e
    cases e
    rfl
  | k :: ks, ns, e => by
    unfold keyInts at e
    split at e
    · rename_i heq
      cases heq
    · rename_i i ks' heq
      cases heq
      cases h : keyInts ks with
      | none => rw [h] at e; cases e
      | some ms =>
        rw [h] at e
        cases e
        rw [keyInts_of h]
        rfl
    · cases e
def pSortedD : List D → Option D
  | [.dct ks _] => match keyInts ks with
    | some ns => if ns.length < 64 then some (.lst ((sortI ns).map .int)) else none
    | none => none
  | _ => none
theorem prim_sortedD : PrimF G (fun xs H Q => ∃ (a : Addr) (kvs : List (Key × V)) (ks : List Int), xs = [.ref a] ∧ Rd H a (.dK kvs) ∧ kvs.map (·.1) = ks.map Sum.inl ∧ ks.length < 64 ∧
    ∀ (ys : List Int) (p : Addr), ys.Perm ks → ys.Pairwise (· ≤ ·) → H p = none → Q (.ref p) (upd H p (.lst (ys.map V.int)))) pSortedD := fun H vs ds F Q d tb r e q => by
  unfold pSortedD at e
  split at e
  · rename_i ks dd
    split at e
    · rename_i ns e1
      split at e
      · rename_i hl
        cases e
        obtain ⟨x, rfl, h1⟩ := rdsL1 r
        obtain ⟨a, us, A, rfl, h3, ⟨h4, _⟩, h5, rfl⟩ := rds_dct.mp h1
        refine ⟨a, us, ns, rfl, .inl h3, by rw [h4]; exact keyInts_of e1, hl, fun ys p hp hs np => ?_⟩
        rw [sortI_uniq hp hs]
        exact q_new (d := .non) np (rdsL_mk_ints _) q
      · cases e
    · cases e
  · cases e
def pSortedA : List D → Option D
  | [.dct ks ds] => pSortedD [.dct ks ds]
  | ds => pSortedI ds
theorem call_sortedA (x : XOk G X) : CallR X (.builtin "sorted") (fun xs H Q => rSorted X.K xs H Q ∨ ∃ (a : Addr) (kvs : List (Key × V)) (ks : List Int), xs = [.ref a] ∧ Rd H a (.dK kvs) ∧ kvs.map (·.1) = ks.map Sum.inl ∧ ks.length < 64 ∧
    ∀ (ys : List Int) (p : Addr), ys.Perm ks → ys.Pairwise (· ≤ ·) → H p = none → Q (.ref p) (upd H p (.lst (ys.map V.int)))) := fun pins s σ H xs us Q I r h =>
  h.elim (cr_sorted pins s σ H xs us Q I r) (call_sortedDI x.calm pins s σ H xs us Q I r)
theorem prim_sortedA (hK : X.K = G.K) : PrimF G (fun xs H Q => rSorted X.K xs H Q ∨ ∃ (a : Addr) (kvs : List (Key × V)) (ks : List Int), xs = [.ref a] ∧ Rd H a (.dK kvs) ∧ kvs.map (·.1) = ks.map Sum.inl ∧ ks.length < 64 ∧
    ∀ (ys : List Int) (p : Addr), ys.Perm ks → ys.Pairwise (· ≤ ·) → H p = none → Q (.ref p) (upd H p (.lst (ys.map V.int)))) pSortedA := fun H vs ds F Q d tb r e q => by
  unfold pSortedA at e
  split at e
  · exact .inr (prim_sortedD H vs _ F Q d tb r e q)
  · exact .inl (prim_sortedI hK H vs _ F Q d tb r e q)
end
end
end VL
set_option maxHeartbeats 4000000
namespace VL
noncomputable section
open PySem PySem.Spec PyProof.Rows L2
open GxR (TabB Tabbed)
variable [LamT]
section
variable {G : Gb} {C : Ctx} {H H' : Hp} {σ : L2.St} {E : Env} {Fs : Nat → List Addr} {P : Addr}
theorem Stp.same {M : List Nat} {E' : Env} {Fs' : Nat → List Addr} (s : Stp [] H H' E E' Fs Fs') (hl : E'.length = E.length) : E' = E := by
  refine List.ext_getElem? fun i => s.env i (by simp)
theorem Stp.no {E' : Env} {Fs' : Nat → List Addr} (s : Stp [] H H' E E' Fs Fs') : Chg No H H' := s.chg.mono fun q o _ ⟨i, hi, _⟩ => by cases hi
end
section
variable {G : Gb} {X : Cx}
variable {elt tg iter tg1 iter1 : Expr} {ifs ifs1 : List Expr} {scope : Scope} {own : List (Str × Nat)} {pos : Pos} {M0 W W1 vs1 : List Nat} {k k1 ke : Kind} {src src1 : IF} {g g1 : Bool → D → Env → Option Env} {t t1 : TF} {f : EF}
end
def retTs (E : Env) : List Kind → List D → List Nat → Bool
  | [], [], _ => true
  | k :: ks, d :: ds, seen => (d.atom || (match k with
    | .own => true
    | .sub i => !seen.contains i && (match E[i]? with
      | some (some (.own, _)) => true
      | _ => false)
    | _ => false)) && retTs E ks ds (match k with
      | .sub i => i :: seen
      | _ => seen)
  | _, _, _ => false
def sRetT (ks : List Kind) (l : LF) : SF := fun E => match l E with
  | some (ds, E') => if retTs E' ks ds [] && sl (decide (ds.length ≤ sizeLine)) then some (.rt (.tup ds) E') else none
  | none => none
end
end VL
set_option maxHeartbeats 4000000
namespace VL
open PySem PySem.Spec PyProof.Rows L2
open GxR (TabB Tabbed)
variable [LamT]
noncomputable section
def sCat (i : Nat) (p : List D → Option D) (l : LF) : SF := fun E => match l E with
  | some (ds, E') => (match p ds with
    | some d => (match E'[i]? with
      | some (some (.own, _)) => some (.nx (E'.set i (some (.own, d))))
      | _ => none)
    | none => none)
  | none => none
end
end VL
set_option maxHeartbeats 4000000
namespace VL
open PySem PySem.Spec PyProof.Rows L2
open GxR (TabB Tabbed)
variable [LamT]
noncomputable section
def D.isTup : D → Bool
  | .tup _ => true
  | _ => false
def zipD (ds es : List D) : List D := List.zipWith (fun a b => .tup [a, b]) ds es
def iZip2 (f g : EF) : IF := fun E => match lCons f (lCons g lNil) E with
  | some ([d, d'], E') => (match d.items, d'.items with
    | some ds, some es => if d.isTup == d'.isTup then some (zipD ds es, E') else none
    | _, _ => none)
  | _ => none
end
end VL
set_option maxHeartbeats 4000000
namespace VL
open PySem PySem.Spec PyProof.Rows L2
open GxR (TabB Tabbed)
variable [LamT]
noncomputable section
def eCallP (F : FD) (i : Nat) (pf : PF) : EF := fun E => match pf E with
  | some (p, E1) => if hasP E1 i p then (match E1[i]? with
    | some (some (m, d)) => if m.w then (match getP p d with
      | some sd => (match F [sd] with
        | some (r, [sd']) => (match setP p d sd' with
          | some d' => some (r, E1.set i (some (m, d')))
          | none => none)
        | _ => none)
      | none => none) else none
    | _ => none) else none
  | none => none
end
end VL
set_option maxHeartbeats 4000000
namespace VL
open PySem PySem.Spec PyProof.Rows L2
open GxR (TabB Tabbed)
variable [LamT]
noncomputable section
section
variable {G : Gb} {C : Ctx} {H H' : Hp} {σ : L2.St} {E : Env} {Fs Fs' : Nat → List Addr}
theorem set_none_get {j l : Nat} {m : Mode} {d : D} (e : (E.set j none)[l]? = some (some (m, d))) : E[l]? = some (some (m, d)) ∧ l ≠ j := by
  by_cases h : l = j
  · subst h
    by_cases hj : l < E.length
    · rw [List.getElem?_set_self hj] at e
      cases e
    · rw [List.getElem?_eq_none (by rw [List.length_set]; omega)] at e
      cases e
  · rw [List.getElem?_set_ne (Ne.symm h)] at e
    exact ⟨e, h⟩
theorem Rel.forget (R : Rel G C H σ E Fs) (j : Nat) : Rel G C H σ (E.set j none) Fs :=
  ⟨by rw [List.length_set]; exact R.len, fun i m d e => R.rd i m d (set_none_get e).1, fun i m d e hw => by
    obtain ⟨h1, h2, h3⟩ := R.nd i m d (set_none_get e).1 hw
    exact ⟨h1, h2, fun l m' d' hl el => h3 l m' d' hl (set_none_get el).1⟩, fun i m d e => R.nw i m d (set_none_get e).1, R.fr, R.pr, R.pt, R.tb, fun i d e => let ⟨a, r, e1, e2, e3, e4, e5⟩ := R.tp i d (set_none_get e).1; ⟨a, r, e1, e2, e3, e4, fun j m' d' hj e6 => e5 j m' d' hj (set_none_get e6).1⟩⟩
end
def sMv (i j : Nat) : SF := fun E => match E[i]?, E[j]? with
  | some (some (m, .lst ds)), some (some (.own, d)) => if m.w && (i != j) && sl (decide (ds.length < sizeLine)) then some (.nx ((E.set j none).set i (some (m, .lst (ds ++ [d]))))) else none
  | _, _ => none
end
end VL
set_option maxHeartbeats 4000000
namespace VL
open PySem PySem.Spec PyProof.Rows L2
open GxR (TabB Tabbed)
variable [LamT]
noncomputable section
def pAddT : List D → Option D
  | [.tup xs, .tup ys] => if sl (decide (xs.length + ys.length ≤ sizeLine)) then some (.tup (xs ++ ys)) else none
  | ds => pAdd ds
section
variable {G : Gb} {X : Cx}
abbrev rAddT (K : PySem.W.Frag) : R2 := fun x y H Q => rCatA K x y H Q ∨ rAddAll x y H Q
theorem op_addT : OpR X (binaryOp .Add) (rAddT X.K) := op_catA.or op_addAll
theorem prim_addT (hK : X.K = G.K) : PrimV G (r2 (rAddT X.K)) pAddT := fun H vs ds F Q d tb r e q => by
  unfold pAddT at e
  split at e
  · split at e
    · rename_i xs ys hl
      replace hl := sl_iff.mp hl
      cases e
      obtain ⟨x, y, A, B, rfl, rfl, h1, h2⟩ := rdsL2 r
      obtain ⟨a, us, rfl, h3, h4⟩ := rds_tup.mp h1
      obtain ⟨b, ws, rfl, h5, h6⟩ := rds_tup.mp h2
      have l1 := rdsL_len h4
      have l2 := rdsL_len h6
      refine ⟨_, _, rfl, .inl ⟨a, b, us, ws, rfl, rfl, by rw [hK]; exact h3, by rw [hK]; exact h5, by rw [l1, l2]; exact hl, fun z => ?_, fun _ z => ?_, fun _ _ p np => ?_⟩⟩
      · subst z
        have : xs = [] := List.length_eq_zero_iff.mp (by rw [← l1]; rfl)
        subst this
        obtain ⟨_, rfl⟩ := rdsL_nil.mp h4
        exact q _ H B h2 (fun nd => nd) (fun c hc => .inl hc) (fun c t n => by cases n) (Chg.refl _ _)
      · subst z
        have : ys = [] := List.length_eq_zero_iff.mp (by rw [← l2]; rfl)
        subst this
        obtain ⟨_, rfl⟩ := rdsL_nil.mp h6
        refine q _ H A ?_ (fun nd => by simpa using nd) (fun c hc => .inl (by simpa using hc)) (fun c t n => by cases n) (Chg.refl _ _)
        rw [List.append_nil]
        exact h1
      · have c : Chg No H (upd H p (.tup (us ++ ws))) := Chg.new np
        exact q _ _ (A ++ B) (rds_tup.mpr ⟨p, _, rfl, SqT.of upd_same, RdsL.chg c _ _ _ (fun _ _ z => z) (rdsL_app h4 h6)⟩) (fun nd => nd) (fun c hc => .inl hc) (fun c t n => by cases n) c
    · cases e
  · obtain ⟨x, y, e1, h⟩ := prim_add H vs ds F Q d tb r e q
    exact ⟨x, y, e1, .inr h⟩
end
end
end VL
set_option maxHeartbeats 4000000
namespace VL
open PySem PySem.Spec PyProof.Rows L2
open GxR (TabB Tabbed)
variable [LamT]
section
variable {G : Gb} {X : Cx}
theorem ve_gi {i : Int} {x : Str} {pos : Pos} (hg : Gl X x) (hm : ∃ t, X.mg x = some (.int i t)) (hd : (x == ("__debug__" : Str)) = false := by decide) : VE G X (.Name x pos) [] .own (eC (.int i)) := by
  obtain ⟨t, hm⟩ := hm
  exact PE.imp (pe_glob (v := .int i) hg hm ⟨t, rfl⟩ hd) fun σ H Q ⟨C, E, Fs, R, d, E', e, q⟩ => by
    cases e
    exact q _ H Fs [] R Stp.refl (hInt _ _ _) ⟨List.nodup_nil, fun a ha => by cases ha⟩
end
end VL
set_option maxHeartbeats 4000000
namespace VL
noncomputable section
open PySem PySem.Spec PyProof.Rows L2
open GxR (TabB Tabbed)
variable [LamT]
section
variable {G : Gb} {X : Cx}
def pOdd1 : List D → Option D
  | [.int i, .int j] => if sl (decide (0 ≤ i ∧ j = 1)) then some (.int (i % 2)) else none
  | _ => none
def pMinD : List D → Option D
  | [.lst ds, .int m] => match intsD ds with
    | some [] => some (.int m)
    | some (n :: ns) => some (.int (ns.foldl min n))
    | none => none
  | _ => none
def pMaxD : List D → Option D
  | [.lst ds, .int m] => match intsD ds with
    | some [] => some (.int m)
    | some (n :: ns) => some (.int (ns.foldl max n))
    | none => none
  | _ => none
variable {e e2 : Expr} {M M' : List Nat} {k k' : Kind} {f g : EF} {p pos kp : Pos}
end
end
end VL
set_option maxHeartbeats 4000000
namespace VL
noncomputable section
open PySem PySem.Spec PyProof.Rows L2
open GxR (TabB Tabbed)
variable [LamT]
section
variable {G : Gb} {X : Cx} {k : Nat} {f : Addr} {fd : FuncData} {ps : List Str} {J IO : List Nat} {ro : Bool} {F : FD} {x : Str} {p pos : Pos} {e : Expr} {es : List Expr} {M : List Nat} {ks : List Kind} {l : LF}
theorem call_core {C : Ctx} {σ : L2.St} {H H1 : Hp} {Q : VK} {E : XK} {E1 : Env} {Fs1 : Nat → List Addr} {ds ds' : List D} {vs : List V} {FF : List (List Addr)} {d : D} (hk : ioKinds ks J IO = true) (hn : ks.length = ps.length) (R1 : Rel G C H1 σ E1 Fs1) (a1 : ArgsOk G σ H H1 E1 Fs1 ks ds vs FF)
    (hb : ∀ a, H1 a = none → H a = none) (hw : ioW E1 IO = true) (eF : F ds = some (d, ds')) (hlen : ds'.length = IO.length)
    (q : ∀ v H3 Fs3 A, Rel G C H3 σ (setIO E1 IO ds') Fs3 → Stp IO H1 H3 E1 (setIO E1 IO ds') Fs1 Fs3 → Rds G H3 d v A → KOk σ H (setIO E1 IO ds') Fs3 (kRet ro) d v A → Q v H3) : spV G J ro ps.length F vs H1 Q E := by
  have hw := hw
  unfold ioKinds at hk
  simp only [Bool.and_eq_true, beq_iff_eq, decide_eq_true_eq] at hk
  obtain ⟨⟨⟨⟨lJ, ndI⟩, ndJ⟩, hio⟩, hsf⟩ := hk
  obtain ⟨l1, l2, l3, all⟩ := a1.all
  have tr1 : ∀ {i m d a}, E1[i]? = some (some (m, d)) → a ∈ Fs1 i → ∃ o, H1 a = some o := fun {i m d a} e ha => by
    obtain ⟨v, _, r, _⟩ := R1.rd i m d e
    obtain ⟨o, eo, _⟩ := Rds.trk d v _ r a ha
    exact ⟨o, eo⟩
  have pos_ : ∀ {y j i : Nat}, J[y]? = some j → IO[y]? = some i → ks[j]? = some (Kind.ref i) := fun {y j i} e1 e2 => by
    have hm : (j, i) ∈ J.zip IO := List.mem_of_getElem? (i := y) (by rw [List.getElem?_zip_eq_some]; exact ⟨e1, e2⟩)
    exact of_decide_eq_true (List.all_eq_true.mp hio (j, i) hm)
  have key0 : ∀ {y j i : Nat}, J[y]? = some j → IO[y]? = some i → ∃ m dd v, E1[i]? = some (some (m, dd)) ∧ m.w = true ∧ σ[i]? = some (some v) ∧ vs[j]? = some v ∧ FF[j]? = some (Fs1 i) := fun {y j i} e1 e2 => by
    obtain ⟨dd, v, F', h1, h2, h3, h4, m, h5, h6, h7⟩ := all j _ (pos_ e1 e2)
    subst h7
    have hw' := List.all_eq_true.mp hw i (List.mem_of_getElem? e2)
    rw [h5] at hw'
    exact ⟨m, dd, v, h5, hw', h6, h2, h3⟩
  have ofJ : ∀ {j}, j ∈ J → ∃ y i, J[y]? = some j ∧ IO[y]? = some i := fun {j} hj => by
    obtain ⟨y, hy, ey⟩ := List.mem_iff_getElem.mp hj
    exact ⟨y, IO[y]'(by omega), by rw [← ey]; exact List.getElem?_eq_getElem hy, List.getElem?_eq_getElem _⟩
  have ofI : ∀ {i}, i ∈ IO → ∃ y j, J[y]? = some j ∧ IO[y]? = some i := fun {i} hi => by
    obtain ⟨y, hy, ey⟩ := List.mem_iff_getElem.mp hi
    exact ⟨y, J[y]'(by omega), List.getElem?_eq_getElem _, by rw [← ey]; exact List.getElem?_eq_getElem hy⟩
  have inj : ∀ {y y' : Nat} {j : Nat}, J[y]? = some j → J[y']? = some j → y = y' := fun {y y' j} e1 e2 => by
    obtain ⟨h1, e1⟩ := List.getElem?_eq_some_iff.mp e1
    obtain ⟨h2, e2⟩ := List.getElem?_eq_some_iff.mp e2
    exact (List.getElem_inj ndJ).mp (e1.trans e2.symm)
  have injI : ∀ {y y' : Nat} {j : Nat}, IO[y]? = some j → IO[y']? = some j → y = y' := fun {y y' j} e1 e2 => by
    obtain ⟨h1, e1⟩ := List.getElem?_eq_some_iff.mp e1
    obtain ⟨h2, e2⟩ := List.getElem?_eq_some_iff.mp e2
    exact (List.getElem_inj ndI).mp (e1.trans e2.symm)
  have fa : ∀ {j : Nat} {F' : List Addr}, FF[j]? = some F' → (FF[j]?).getD [] = F' := fun {j F'} e => by rw [e]; rfl
  refine ⟨ds, fun j => (FF[j]?).getD [], by rw [l2]; exact hn, ⟨by rw [l2, l1], fun j dj ej => ?_, fun j hj hjl => ?_⟩, R1.tb, d, ds', eF, fun v H3 A FA' rA ndA nwA ao c3 => ?_⟩
  · have hj : j < ks.length := by rw [← l1]; exact (List.getElem?_eq_some_iff.mp ej).1
    obtain ⟨dd, v, F', h1, h2, h3, h4, _⟩ := all j _ (List.getElem?_eq_getElem hj)
    rw [ej] at h1
    cases h1
    exact ⟨v, h2, by rw [fa h3]; exact h4⟩
  · obtain ⟨y, i, ey, ei⟩ := ofJ hj
    obtain ⟨m, dd, v, h1, h2, h3, h4, h5⟩ := key0 ey ei
    rw [fa h5]
    refine ⟨(R1.nd i m dd h1 h2).1, fun j' hj' hl' a ha hb => ?_⟩
    have hk' : j' < ks.length := by rw [← l1]; exact hl'
    obtain ⟨d2, v2, F2, g1, g2, g3, g4, g5⟩ := all j' _ (List.getElem?_eq_getElem hk')
    rw [fa g3] at hb
    by_cases hJ' : j' ∈ J
    · obtain ⟨y', i', ey', ei'⟩ := ofJ hJ'
      obtain ⟨m', dd', v', h1', h2', h3', h4', h5'⟩ := key0 ey' ei'
      rw [h5'] at g3
      cases g3
      refine (R1.nd i m dd h1 h2).2.2 i' m' dd' (fun z => ?_) h1' a ha hb
      subst z
      have := injI ei ei'
      subst this
      rw [ey] at ey'
      cases ey'
      exact hj' rfl
    · have hs : (ks[j']).safe IO = true := by
        have z := List.all_eq_true.mp hsf (ks[j'], j') (List.mk_mem_zipIdx_iff_getElem?.mpr (List.getElem?_eq_getElem hk'))
        rw [Bool.or_eq_true] at z
        rcases z with z | z
        · exact absurd (by simpa using z) hJ'
        · exact z
      exact Vw.apart R1 (Kind.safe_of hs) g5.vw a hb ⟨i, List.mem_of_getElem? ei, m, dd, h1, h2, ha⟩
  ·
    have key : ∀ {i}, i ∈ IO → ∃ y j d2 v2 m dd, IO[y]? = some i ∧ J[y]? = some j ∧ E1[i]? = some (some (m, dd)) ∧ m.w = true ∧ σ[i]? = some (some v2) ∧ ds'[y]? = some d2 ∧ Rds G H3 d2 v2 (FA' j) ∧ (FA' j).Nodup ∧ (∀ a ∈ FA' j, a ∈ Fs1 i ∨ H1 a = none) ∧ (∀ a ∈ A, a ∉ FA' j) ∧ ∀ i ∈ J, i ≠ j → ∀ a ∈ FA' j, a ∉ FA' i := fun {i} hi => by
      obtain ⟨y, j, ey, ei⟩ := ofI hi
      obtain ⟨m, dd, v2, h1, h2, h3, h4, h5⟩ := key0 ey ei
      obtain ⟨d2, v3, g1, g2, g3, g4, g5, g6, g7⟩ := ao.rd y j ey
      rw [h4] at g2
      cases g2
      rw [fa h5] at g5
      exact ⟨y, j, d2, v2, m, dd, ei, ey, h1, h2, h3, g1, g3, g4, g5, g6, g7⟩
    let Fs3 : Nat → List Addr := fun i => if i ∈ IO then FA' ((J[IO.idxOf i]?).getD 0) else Fs1 i
    have f3in : ∀ {i y j}, IO[y]? = some i → J[y]? = some j → Fs3 i = FA' j := fun {i y j} ei ej => by
      have hi : i ∈ IO := List.mem_of_getElem? ei
      have e0 : IO.idxOf i = y := injI (by rw [List.getElem?_eq_getElem (List.idxOf_lt_length_iff.mpr hi), List.getElem_idxOf]) ei
      show (if i ∈ IO then FA' ((J[IO.idxOf i]?).getD 0) else Fs1 i) = _
      rw [if_pos hi, e0, ej]
      rfl
    have f3out : ∀ {i}, i ∉ IO → Fs3 i = Fs1 i := fun {i} hi => if_neg hi
    have ioQ : ∀ q, (∃ j ∈ J, q ∈ (FF[j]?).getD []) → ∃ i ∈ IO, ∃ m dd, E1[i]? = some (some (m, dd)) ∧ m.w = true ∧ q ∈ Fs1 i := fun q ⟨j, hj, hq⟩ => by
      obtain ⟨y, i, ey, ei⟩ := ofJ hj
      obtain ⟨m, dd, v2, h1, h2, h3, h4, h5⟩ := key0 ey ei
      rw [fa h5] at hq
      exact ⟨i, List.mem_of_getElem? ei, m, dd, h1, h2, hq⟩
    have s3 : Stp IO H1 H3 E1 (setIO E1 IO ds') Fs1 Fs3 := by
      refine ⟨c3.mono fun q o _ h => ioQ q h, fun i hi => f3out hi, fun i a ha => ?_, fun i hi => setIO_out hi, fun i => ?_, fun i d0 e0 => f3out fun hi => by
        obtain ⟨y, j, d2, v2, m, dd, ei, ey, h1, h2, _⟩ := key hi
        rw [h1] at e0
        cases e0
        cases h2⟩
      · by_cases hi : i ∈ IO
        · obtain ⟨y, j, d2, v2, m, dd, ei, ey, h1, h2, h3, h4, h5, h6, h7, _⟩ := key hi
          rw [f3in ei ey] at ha
          exact h7 a ha
        · rw [f3out hi] at ha
          exact .inl ha
      · by_cases hi : i ∈ IO
        · obtain ⟨y, j, d2, v2, m, dd, ei, ey, h1, h2, h3, h4, _⟩ := key hi
          have e3 := setIO_in ndI ei h4 h1
          rw [e3, h1]
          exact ⟨fun m' d' e => by cases e; exact ⟨_, rfl⟩, fun m' d' e => by cases e; exact ⟨_, rfl⟩⟩
        · rw [setIO_out hi]
          exact ⟨fun m' d' e => ⟨d', e⟩, fun m' d' e => ⟨d', e⟩⟩
    have R3 : Rel G C H3 σ (setIO E1 IO ds') Fs3 := by
      refine ⟨by rw [setIO_len]; exact R1.len, fun i m' d2' e => ?_, fun i m' d2' e hw' => ?_, fun i m' d2' e => ?_, ?_, ?_, R1.pt, fun T hT => c3.tab (R1.tb T hT), fun i d2' e => ?_⟩
      rotate_right
      · by_cases hi : i ∈ IO
        · obtain ⟨y, j, d2, v2, m, dd, ei, ey, h1, h2, h3, h4, h5, _⟩ := key hi
          rw [setIO_in ndI ei h4 h1] at e
          cases e
          cases h2
        · rw [setIO_out hi] at e
          obtain ⟨a, r, e1, e2, e3, e4, e5⟩ := R1.tp i d2' e
          refine ⟨a, r, by rw [f3out hi]; exact e1, e2, e3, e4, fun j' mj dj hj' ej hb => ?_⟩
          by_cases hj2 : j' ∈ IO
          · obtain ⟨y', j2, d3, v3, m3, dd3, ei', ey', k1, k2, k3, k4, k5, k6, k7, _⟩ := key hj2
            rw [f3in ei' ey'] at hb
            rcases k7 a hb with z | z
            · exact e5 j' _ _ hj' k1 z
            · obtain ⟨o, eo⟩ := tr1 e (by rw [e1]; exact List.mem_cons_self)
              rw [z] at eo
              cases eo
          · rw [setIO_out hj2] at ej
            rw [f3out hj2] at hb
            exact e5 j' _ _ hj' ej hb
      · by_cases hi : i ∈ IO
        · obtain ⟨y, j, d2, v2, m, dd, ei, ey, h1, h2, h3, h4, h5, _⟩ := key hi
          rw [setIO_in ndI ei h4 h1] at e
          cases e
          refine ⟨v2, h3, by rw [f3in ei ey]; exact h5, fun z => ?_⟩
          obtain ⟨v4, g1, _, g2⟩ := R1.rd i _ _ h1
          rw [h3] at g1
          cases g1
          exact g2 z
        · rw [setIO_out hi] at e
          obtain ⟨v4, g1, g2, g3⟩ := R1.rd i _ _ e
          have ap : ∀ a ∈ Fs1 i, ¬ ∃ j ∈ J, a ∈ (FF[j]?).getD [] := fun a ha h => by
            obtain ⟨i', hi', m, dd, h1, h2, h3⟩ := ioQ a h
            exact (R1.nd i' m dd h1 h2).2.2 i _ _ (fun z => hi (by rw [z]; exact hi')) e a h3 ha
          exact ⟨v4, g1, by rw [f3out hi]; exact Rds.chg c3 _ _ _ ap g2, g3⟩
      · by_cases hi : i ∈ IO
        · obtain ⟨y, j, d2, v2, m, dd, ei, ey, h1, h2, h3, h4, h5, h6, h7, h8, h9⟩ := key hi
          rw [f3in ei ey]
          obtain ⟨g1, g2, g3⟩ := R1.nd i m dd h1 h2
          refine ⟨h6, fun a ha hT => ?_, fun j' mj dj hj' ej a ha hb => ?_⟩
          · rcases h7 a ha with z | z
            · exact g2 a z hT
            · exact (R1.hn a z).2 hT
          · by_cases hj2 : j' ∈ IO
            · obtain ⟨y', j2, d3, v3, m3, dd3, ei', ey', _⟩ := key hj2
              rw [f3in ei' ey'] at hb
              refine h9 j2 (List.mem_of_getElem? ey') (fun z => ?_) a ha hb
              subst z
              have := inj ey ey'
              subst this
              rw [ei] at ei'
              cases ei'
              exact hj' rfl
            · rw [setIO_out hj2] at ej
              rw [f3out hj2] at hb
              rcases h7 a ha with z | z
              · exact g3 j' mj dj hj' ej a z hb
              · obtain ⟨o, eo⟩ := tr1 ej hb
                rw [z] at eo
                cases eo
        · rw [setIO_out hi] at e
          rw [f3out hi]
          obtain ⟨g1, g2, g3⟩ := R1.nd i _ _ e hw'
          refine ⟨g1, g2, fun j' mj dj hj' ej a ha hb => ?_⟩
          by_cases hj2 : j' ∈ IO
          · obtain ⟨y', j2, d3, v3, m3, dd3, ei', ey', k1, k2, k3, k4, k5, k6, k7, _⟩ := key hj2
            rw [f3in ei' ey'] at hb
            rcases k7 a hb with z | z
            · exact g3 j' _ _ hj' k1 a ha z
            · obtain ⟨o, eo⟩ := tr1 e ha
              rw [z] at eo
              cases eo
          · rw [setIO_out hj2] at ej
            rw [f3out hj2] at hb
            exact g3 j' _ _ hj' ej a ha hb
      · by_cases hi : i ∈ IO
        · obtain ⟨y, j, d2, v2, m, dd, ei, ey, h1, h2, h3, h4, h5, h6, h7, h8, h9⟩ := key hi
          rw [setIO_in ndI ei h4 h1] at e
          cases e
          obtain ⟨g1, g2⟩ := R1.nw i _ _ h1
          rw [f3in ei ey]
          refine ⟨fun z a ha => ?_, fun z a ha => ?_⟩
          · rcases h7 a ha with y' | y'
            · exact g1 z a y'
            · exact (R1.hn a y').1
          · rcases h7 a ha with y' | y'
            · exact g2 z a y'
            · exact .inr (R1.hn a y').1
        · rw [setIO_out hi] at e
          rw [f3out hi]
          exact R1.nw i _ _ e
      · refine (R1.fr.trans c3).mono fun q o e h => ?_
        rcases h with h | h
        · exact h
        · obtain ⟨i, hi, m, dd, h1, h2, h3⟩ := ioQ q h
          obtain ⟨g1, g2⟩ := R1.nw i _ _ h1
          cases m with
          | own =>
            rw [g1 rfl q h3] at e
            cases e
          | io =>
            rcases g2 rfl q h3 with z | z
            · exact ⟨i, z⟩
            · rw [z] at e
              cases e
          | arg => cases h2
          | shr => cases h2
          | tip => cases h2
      · refine (R1.pr.trans c3).mono fun q o e h => ?_
        rcases h with h | h
        · exact h
        · obtain ⟨i, hi, m, dd, h1, h2, h3⟩ := ioQ q h
          exact (R1.nd i m dd h1 h2).2.1 q h3
    have lo : ∀ a ∈ A, Loose H (setIO E1 IO ds') Fs3 a := fun a ha => ⟨hb a (nwA a ha), fun i ⟨m', d2', e⟩ hm => by
      by_cases hi : i ∈ IO
      · obtain ⟨y, j, d2, v2, m, dd, ei, ey, h1, h2, h3, h4, h5, h6, h7, h8, h9⟩ := key hi
        rw [f3in ei ey] at hm
        exact h8 a ha hm
      · rw [setIO_out hi] at e
        rw [f3out hi] at hm
        obtain ⟨o, eo⟩ := tr1 e hm
        rw [nwA a ha] at eo
        cases eo⟩
    refine q v H3 Fs3 A R3 s3 rA ?_
    cases ro with
    | true => exact ⟨ndA rfl, fun a ha => .inr (lo a ha)⟩
    | false => exact fun a ha => .inr (lo a ha)
end
abbrev gE (E : Env) (o : Option (Mode × D)) : Env := (E ++ List.replicate 1000 none) ++ [o]
abbrev gS (σ : L2.St) (v : V) : L2.St := (σ ++ List.replicate 1000 none) ++ [some v]
theorem gE_lt {E : Env} {o : Option (Mode × D)} {i : Nat} (h : i < E.length) : (gE E o)[i]? = E[i]? := by
  rw [List.getElem?_append_left (by simp; omega), List.getElem?_append_left h]
theorem gE_N {E : Env} {o : Option (Mode × D)} : (gE E o)[E.length + 1000]? = some o := by
  rw [List.getElem?_append_right (by simp)]
  simp
theorem gS_lt {E : L2.St} {o : V} {i : Nat} (h : i < E.length) : (gS E o)[i]? = E[i]? := by
  rw [List.getElem?_append_left (by simp; omega), List.getElem?_append_left h]
theorem gS_N {E : L2.St} {o : V} : (gS E o)[E.length + 1000]? = some (some o) := by
  rw [List.getElem?_append_right (by simp)]
  simp
theorem gE_some {E : Env} {o : Option (Mode × D)} {i : Nat} {y : Mode × D} (h : (gE E o)[i]? = some (some y)) : (i < E.length ∧ E[i]? = some (some y)) ∨ (i = E.length + 1000 ∧ o = some y) := by
  by_cases h1 : i < E.length
  · exact .inl ⟨h1, by rw [← gE_lt (o := o) h1]; exact h⟩
  · by_cases h2 : i < E.length + 1000
    · rw [List.getElem?_append_left (by simp; omega), List.getElem?_append_right (by omega), List.getElem?_replicate] at h
      split at h <;> simp at h
    · by_cases h3 : i = E.length + 1000
      · subst h3
        rw [gE_N] at h
        cases h
        exact .inr ⟨rfl, rfl⟩
      · rw [List.getElem?_eq_none (by simp; omega)] at h
        cases h
theorem lt_of_some {E : Env} {i : Nat} {y : Option (Mode × D)} (h : E[i]? = some y) : i < E.length := (List.getElem?_eq_some_iff.mp h).1
theorem setD_gE {E : Env} {o : Option (Mode × D)} {i : Nat} {d : D} (h : i < E.length) : setD (gE E o) i d = gE (setD E i d) o := by
  unfold setD
  rw [gE_lt h]
  split
  · rw [List.set_append_left _ _ (by simp; omega), List.set_append_left _ _ h]
  · rfl
theorem setIO_gE {m : Mode} {dt dt' : D} : ∀ {IO : List Nat} {ds : List D} {E : Env}, (∀ i ∈ IO, i < E.length) → ds.length = IO.length → setIO (gE E (some (m, dt))) (IO ++ [E.length + 1000]) (ds ++ [dt']) = gE (setIO E IO ds) (some (m, dt'))
  | [], [], E, _, _ => by
    show setD (gE E (some (m, dt))) (E.length + 1000) dt' = _
    unfold setD
    rw [gE_N]
    show (gE E (some (m, dt))).set _ _ = _
    rw [List.set_append_right _ _ (by simp)]
    simp [setIO]
  | [], _ :: _, _, _, h => by simp at h
  | _ :: _, [], _, _, h => by simp at h
  | i :: IO, d :: ds, E, h, hl => by
    show setIO (setD (gE E _) i d) (IO ++ [E.length + 1000]) (ds ++ [dt']) = _
    rw [setD_gE (h i List.mem_cons_self)]
    have := setIO_gE (m := m) (dt := dt) (dt' := dt') (IO := IO) (ds := ds) (E := setD E i d) (fun j hj => by rw [setD_len]; exact h j (List.mem_cons_of_mem _ hj)) (by simpa using hl)
    rw [setD_len] at this
    exact this
def eCallT (F : FD) (IO : List Nat) (l : LF) : EF := fun E => match l E with
  | some (ds, E') => if ioW E' IO then (match F ds with
    | some (d, ds') => if ds'.length = IO.length + 1 then some (d, setIO E' IO ds') else none
    | none => none) else none
  | none => none
theorem setIO_long : ∀ {IO : List Nat} {ds : List D} {E : Env} {d : D}, ds.length = IO.length → setIO E IO (ds ++ [d]) = setIO E IO ds
  | [], [], _, _, _ => rfl
  | [], _ :: _, _, _, h => by simp at h
  | _ :: _, [], _, _, h => by simp at h
  | i :: IO, d :: ds, E, _, h => by
    show setIO (setD E i d) IO (ds ++ [_]) = _
    rw [setIO_long (by simpa using h)]
    rfl
section
variable {G : Gb} {C : Ctx} {σ : L2.St} {H H1 : Hp} {E : Env} {Fs : Nat → List Addr} {Ft : List Addr} {dt : D} {vt : V}
abbrev gF (E : Env) (Fs : Nat → List Addr) (Ft : List Addr) : Nat → List Addr := fun i => if i = E.length + 1000 then Ft else Fs i
theorem gF_lt {i : Nat} (h : i < E.length) : gF E Fs Ft i = Fs i := if_neg (by omega)
theorem gF_N : gF E Fs Ft (E.length + 1000) = Ft := if_pos rfl
theorem Rel.ghost (R : Rel G C H σ E Fs) (rd : Rds G H dt vt Ft) (nd : Ft.Nodup) (lo : ∀ a ∈ Ft, (∀ i, Asg E i → a ∉ Fs i) ∧ C.H0 a = none ∧ ¬ C.T a) : Rel G C H (gS σ vt) (gE E (some (.own, dt))) (gF E Fs Ft) where
  len := by simp [R.len]
  rd := fun i m d e => by
    rcases gE_some e with ⟨h1, h2⟩ | ⟨rfl, h2⟩
    · obtain ⟨v, a, b, c⟩ := R.rd i m d h2
      exact ⟨v, by rw [gS_lt (by rw [← R.len]; exact h1)]; exact a, by rw [gF_lt h1]; exact b, c⟩
    · cases h2
      exact ⟨vt, by rw [R.len, gS_N], by rw [gF_N]; exact rd, fun z => by cases z⟩
  nd := fun i m d e hw => by
    rcases gE_some e with ⟨h1, h2⟩ | ⟨rfl, h2⟩
    · obtain ⟨a, b, c⟩ := R.nd i m d h2 hw
      rw [gF_lt h1]
      refine ⟨a, b, fun j m' d' hj e' => ?_⟩
      rcases gE_some e' with ⟨h3, h4⟩ | ⟨rfl, h4⟩
      · rw [gF_lt h3]
        exact c j m' d' hj h4
      · rw [gF_N]
        exact fun a ha hb => (lo a hb).1 i ⟨m, d, h2⟩ ha
    · rw [gF_N]
      refine ⟨nd, fun a ha => (lo a ha).2.2, fun j m' d' hj e' => ?_⟩
      rcases gE_some e' with ⟨h3, h4⟩ | ⟨rfl, h4⟩
      · rw [gF_lt h3]
        exact fun a ha => (lo a ha).1 j ⟨m', d', h4⟩
      · exact absurd rfl hj
  nw := fun i m d e => by
    rcases gE_some e with ⟨h1, h2⟩ | ⟨rfl, h2⟩
    · rw [gF_lt h1]
      exact R.nw i m d h2
    · cases h2
      rw [gF_N]
      exact ⟨fun _ a ha => (lo a ha).2.1, fun z => by cases z⟩
  fr := R.fr
  pr := R.pr
  pt := R.pt
  tb := R.tb
  tp := fun i d e => by
    rcases gE_some e with ⟨h1, h2⟩ | ⟨rfl, h2⟩
    · obtain ⟨a, r, e1, e2, e3, e4, e5⟩ := R.tp i d h2
      refine ⟨a, r, by rw [gF_lt h1]; exact e1, e2, e3, e4, fun j m' d' hj e' => ?_⟩
      rcases gE_some e' with ⟨h3, h4⟩ | ⟨rfl, h4⟩
      · rw [gF_lt h3]
        exact e5 j m' d' hj h4
      · rw [gF_N]
        exact fun hb => (lo a hb).1 i ⟨_, d, h2⟩ (by rw [e1]; exact List.mem_cons_self)
    · cases h2
theorem Rel.unghost {o : Option (Mode × D)} (hl : E.length = σ.length) (R : Rel G C H (gS σ vt) (gE E o) Fs) : Rel G C H σ E Fs where
  len := hl
  rd := fun i m d e => by
    have h := lt_of_some e
    obtain ⟨v, a, b, c⟩ := R.rd i m d (by rw [gE_lt h]; exact e)
    exact ⟨v, by rw [← gS_lt (o := vt) (by rw [← hl]; exact h)]; exact a, b, c⟩
  nd := fun i m d e hw => by
    obtain ⟨a, b, c⟩ := R.nd i m d (by rw [gE_lt (lt_of_some e)]; exact e) hw
    exact ⟨a, b, fun j m' d' hj e' => c j m' d' hj (by rw [gE_lt (lt_of_some e')]; exact e')⟩
  nw := fun i m d e => R.nw i m d (by rw [gE_lt (lt_of_some e)]; exact e)
  fr := R.fr
  pr := R.pr
  pt := R.pt
  tb := R.tb
  tp := fun i d e => by
    obtain ⟨a, r, e1, e2, e3, e4, e5⟩ := R.tp i d (by rw [gE_lt (lt_of_some e)]; exact e)
    exact ⟨a, r, e1, e2, e3, e4, fun j m' d' hj e' => e5 j m' d' hj (by rw [gE_lt (lt_of_some e')]; exact e')⟩
theorem asg_gE {o : Option (Mode × D)} {i : Nat} (h : Asg E i) : i < E.length ∧ Asg (gE E o) i := by
  obtain ⟨m, d, e⟩ := h
  exact ⟨lt_of_some e, m, d, by rw [gE_lt (lt_of_some e)]; exact e⟩
theorem Loose.ghost {a : Addr} {o : Option (Mode × D)} (h : Loose H E Fs a) (n : a ∉ Ft) : Loose H (gE E o) (gF E Fs Ft) a := ⟨h.1, fun i ⟨m, d, e⟩ => by
  rcases gE_some e with ⟨h1, h2⟩ | ⟨rfl, h2⟩
  · rw [gF_lt h1]
    exact h.2 i ⟨m, d, h2⟩
  · rw [gF_N]
    exact n⟩
theorem Vw.ghost {S : List Nat} {F : List Addr} {o : Option (Mode × D)} (h : Vw H E Fs S F) (n : ∀ a ∈ F, a ∉ Ft) : Vw H (gE E o) (gF E Fs Ft) S F := fun a ha => by
  rcases h a ha with ⟨i, hi, as, hm⟩ | z
  · exact .inl ⟨i, hi, (asg_gE as).2, by rw [gF_lt (asg_gE (o := o) as).1]; exact hm⟩
  · exact .inr (z.ghost (n a ha))
theorem KOk.ghost {k : Kind} {d : D} {v : V} {F : List Addr} {o : Option (Mode × D)} (hl : E.length = σ.length) (h : KOk σ H E Fs k d v F) (n : ∀ a ∈ F, a ∉ Ft) : KOk (gS σ vt) H (gE E o) (gF E Fs Ft) k d v F := by
  cases k with
  | own => exact ⟨h.1, h.2.ghost n⟩
  | sub i => exact ⟨(asg_gE h.1).2, by rw [gF_lt (asg_gE (o := o) h.1).1]; exact h.2⟩
  | top S => exact ⟨h.1.ghost n, fun a r hd e => (h.2 a r hd e).ghost (n a (by rw [e]; exact List.mem_cons_self))⟩
  | vw S => exact Vw.ghost h n
  | ref i =>
    obtain ⟨m, e, hv, hF⟩ := h
    have := lt_of_some e
    exact ⟨m, by rw [gE_lt this]; exact e, by rw [gS_lt (by omega)]; exact hv, by rw [gF_lt this]; exact hF⟩
theorem ArgsOk.ghost {o : Option (Mode × D)} (hl : E.length = σ.length) : ∀ {ks : List Kind} {ds : List D} {vs : List V} {FF : List (List Addr)}, ArgsOk G σ H H1 E Fs ks ds vs FF → (∀ B ∈ FF, ∀ a ∈ B, a ∉ Ft) → ArgsOk G (gS σ vt) H H1 (gE E o) (gF E Fs Ft) ks ds vs FF
  | [], _, _, _, h, _ => h
  | k :: ks, _, _, _, h, n => by
    obtain ⟨d, ds', v, vs', F, FF', rfl, rfl, rfl, h4, h5, h6, h7⟩ := h
    exact ⟨d, ds', v, vs', F, FF', rfl, rfl, rfl, h4, h5.ghost hl (n F List.mem_cons_self), h6, ArgsOk.ghost hl h7 fun B hB => n B (List.mem_cons_of_mem _ hB)⟩
theorem ArgsOk.ghostAt (hl : E.length = σ.length) : ∀ {ks : List Kind} {ds : List D} {vs : List V} {FF : List (List Addr)} {j : Nat}, ArgsOk G σ H H1 E Fs ks ds vs FF → ks[j]? = some Kind.own → ds[j]? = some dt → vs[j]? = some vt → FF[j]? = some Ft → ArgsOk G (gS σ vt) H H1 (gE E (some (.own, dt))) (gF E Fs Ft) (ks.set j (.ref (E.length + 1000))) ds vs FF
  | [], _, _, _, _, _, h, _, _, _ => by simp at h
  | k :: ks, _, _, _, 0, h, h1, h2, h3, h4 => by
    obtain ⟨d, ds', v, vs', F, FF', rfl, rfl, rfl, g4, g5, g6, g7⟩ := h
    simp at h1 h2 h3 h4
    subst h1 h2 h3 h4
    refine ⟨d, ds', v, vs', F, FF', rfl, rfl, rfl, g4, ⟨.own, gE_N, by rw [hl, gS_N], by rw [gF_N]⟩, fun j B hB hk => g6 j B hB (.inl rfl), ArgsOk.ghost hl g7 fun B hB a ha hF => ?_⟩
    obtain ⟨j, hj, ej⟩ := List.mem_iff_getElem.mp hB
    exact g6 j B (by rw [List.getElem?_eq_getElem hj, ej]) (.inl rfl) a hF ha
  | k :: ks, _, _, _, j + 1, h, h1, h2, h3, h4 => by
    obtain ⟨d, ds', v, vs', F, FF', rfl, rfl, rfl, g4, g5, g6, g7⟩ := h
    simp at h1 h2 h3 h4
    refine ⟨d, ds', v, vs', F, FF', rfl, rfl, rfl, g4, g5.ghost hl fun a ha hF => g6 j Ft h4 (.inr h1) a ha hF, fun j' B hB hk => ?_, ArgsOk.ghostAt hl g7 h1 h2 h3 h4⟩
    refine g6 j' B hB ?_
    rcases hk with hk | hk
    · exact .inl hk
    · rw [List.getElem?_set] at hk
      split at hk
      · split at hk <;> cases hk
      · exact .inr hk
end
def ioKindsT (ks : List Kind) (J : List Nat) (jt : Nat) (IO : List Nat) : Bool := (J.length == IO.length) && decide IO.Nodup && decide (J ++ [jt]).Nodup && ((J.zip IO).all fun p => decide (ks[p.1]? = some (Kind.ref p.2))) && decide (ks[jt]? = some Kind.own) &&
  (ks.zipIdx.all fun p => (J ++ [jt]).contains p.2 || (p.1.safe IO && p.1.S.all fun s => decide (s < 1000)))
section
variable {G : Gb} {X : Cx} {k : Nat} {f : Addr} {fd : FuncData} {ps : List Str} {J IO : List Nat} {jt : Nat} {ro : Bool} {F : FD} {x : Str} {p pos : Pos} {e : Expr} {es : List Expr} {M : List Nat} {ks : List Kind} {l : LF}
theorem ioKinds_of {N : Nat} (h : ioKindsT ks J jt IO = true) (hN : 1000 ≤ N) (hI : ∀ i ∈ IO, i < N) : ioKinds (ks.set jt (.ref N)) (J ++ [jt]) (IO ++ [N]) = true := by
  unfold ioKindsT at h
  simp only [Bool.and_eq_true, beq_iff_eq, decide_eq_true_eq] at h
  obtain ⟨⟨⟨⟨⟨h1, h2⟩, h3⟩, h4⟩, h5⟩, h6⟩ := h
  have hjl : jt < ks.length := (List.getElem?_eq_some_iff.mp h5).1
  have hJ : jt ∉ J := by
    rw [List.nodup_append] at h3
    exact fun z => h3.2.2 jt z jt (by simp) rfl
  unfold ioKinds
  simp only [Bool.and_eq_true, beq_iff_eq, decide_eq_true_eq]
  refine ⟨⟨⟨⟨by simp [h1], ?_⟩, h3⟩, ?_⟩, ?_⟩
  · rw [List.nodup_append]
    exact ⟨h2, by simp, fun a ha b hb z => by rw [List.mem_singleton.mp hb] at z; have := hI a ha; omega⟩
  · rw [List.zip_append h1, List.all_append, Bool.and_eq_true]
    constructor
    · refine List.all_eq_true.mpr fun q hq => ?_
      have hq' := List.all_eq_true.mp h4 q hq
      have : q.1 ≠ jt := fun z => hJ (by rw [← z]; exact (List.of_mem_zip hq).1)
      rw [List.getElem?_set_ne (Ne.symm this)]
      exact hq'
    · simp [hjl]
  · refine List.all_eq_true.mpr fun q hq => ?_
    have hq1 := List.mk_mem_zipIdx_iff_getElem?.mp (show (q.1, q.2) ∈ _ from hq)
    by_cases z : q.2 = jt
    · rw [z]
      simp
    · rw [List.getElem?_set_ne (Ne.symm z)] at hq1
      have hq' := List.all_eq_true.mp h6 (q.1, q.2) (List.mk_mem_zipIdx_iff_getElem?.mpr hq1)
      rw [Bool.or_eq_true] at hq' ⊢
      rcases hq' with hq' | hq'
      · exact .inl hq'
      · right
        rw [Bool.and_eq_true] at hq'
        have s1 := Kind.safe_of hq'.1
        have s2 := List.all_eq_true.mp hq'.2
        unfold Kind.safe
        refine List.all_eq_true.mpr fun s hs => ?_
        have h7 := of_decide_eq_true (s2 s hs)
        have h8 := s1 s hs
        simp
        exact ⟨h8, by omega⟩
theorem callT_of {σ : L2.St} {H : Hp} {Q : VK} {E : XK} (hk : ioKindsT ks J jt IO = true) (hn : ks.length = ps.length) (h : tV G (M ++ IO) (kRet ro) (eCallT F IO l) σ H Q) : tVL G M ks l σ H fun vs H1 => spV G (J ++ [jt]) ro ps.length F vs H1 Q E := by
  obtain ⟨C, E0, Fs, R, d, E', e, q⟩ := h
  unfold eCallT at e
  split at e
  · rename_i ds E1 e1
    split at e
    · rename_i hw
      split at e
      · rename_i d' ds' eF
        split at e
        · rename_i hlen
          cases e
          refine ⟨C, E0, Fs, R, ds, E1, e1, fun vs H1 Fs1 FF R1 s1 a1 => ?_⟩
          have h5 : ks[jt]? = some Kind.own := by
            unfold ioKindsT at hk
            simp only [Bool.and_eq_true, beq_iff_eq, decide_eq_true_eq] at hk
            exact hk.1.2
          obtain ⟨l1, l2, l3, all⟩ := a1.all
          obtain ⟨dt, vt, Ft, t1, t2, t3, t4, t5, t6⟩ := all jt _ h5
          have lo : ∀ a ∈ Ft, (∀ i, Asg E1 i → a ∉ Fs1 i) ∧ C.H0 a = none ∧ ¬ C.T a := fun a ha => by
            rcases t6 a ha with ⟨_, z, _⟩ | z
            · cases z
            · exact ⟨z.2, R.hn a z.1⟩
          have hIl : ∀ i ∈ IO, i < E1.length := fun i hi => by
            have := List.all_eq_true.mp hw i hi
            cases e : E1[i]? with
            | none => rw [e] at this; cases this
            | some y => exact lt_of_some e
          have Rg := R1.ghost (vt := vt) (dt := dt) t4 t5 lo
          have ag := ArgsOk.ghostAt R1.len a1 h5 t1 t2 t3
          have hk' := ioKinds_of (N := E1.length + 1000) hk (by omega) (fun i hi => by have := hIl i hi; omega)
          obtain ⟨ds0, dl, rfl⟩ : ∃ a b, ds' = a ++ [b] := ⟨ds'.dropLast, ds'.getLast (by intro z; rw [z] at hlen; simp at hlen), (List.dropLast_concat_getLast _).symm⟩
          have hlen0 : ds0.length = IO.length := by simpa using hlen
          have hwg : ioW (gE E1 (some (.own, dt))) (IO ++ [E1.length + 1000]) = true := by
            unfold ioW
            rw [List.all_append, Bool.and_eq_true]
            constructor
            · refine List.all_eq_true.mpr fun i hi => ?_
              rw [gE_lt (hIl i hi)]
              exact List.all_eq_true.mp hw i hi
            · simp only [List.all_cons, List.all_nil, Bool.and_true]
              rw [gE_N]
              rfl
          have sl : (setIO E1 IO ds0).length = E1.length := setIO_len
          refine call_core (H := H) (E := E) (ks := ks.set jt (.ref (E1.length + 1000))) hk' (by simpa using hn) Rg ag (fun a h => s1.chg.back h) hwg eF (by simp [hlen0]) fun v H3 Fs3 A R3 s3 rA kA => ?_
          rw [setIO_gE hIl hlen0] at R3 s3 kA
          have hE' : setIO E1 IO (ds0 ++ [dl]) = setIO E1 IO ds0 := setIO_long hlen0
          have hFN : ∀ i, Asg (setIO E1 IO ds0) i → i < E1.length := fun i ⟨m, d, e⟩ => by rw [← sl]; exact lt_of_some e
          have R4 : Rel G C H3 σ (setIO E1 IO ds0) (fun i => if i = E1.length + 1000 then Fs1 i else Fs3 i) := (R3.unghost (by rw [sl]; exact R1.len)).fs fun i hi => if_neg (by have := hFN i hi; omega)
          have s4 : Stp (M ++ IO) H H3 E0 (setIO E1 IO ds0) Fs (fun i => if i = E1.length + 1000 then Fs1 i else Fs3 i) := by
            refine ⟨(s1.chg.trans s3.chg).mono fun q o hq hz => ?_, fun i hi => ?_, fun i a ha => ?_, fun i hi => ?_, fun i => ?_, fun i d0 e0 => ?_⟩
            rotate_right
            · show (if i = E1.length + 1000 then Fs1 i else Fs3 i) = Fs i
              obtain ⟨d9, e9⟩ := (s1.md i).1 _ _ e0
              have hl9 : i < E1.length := lt_of_some e9
              rw [if_neg (by omega), s3.tf i d9 (by rw [gE_lt hl9]; exact e9), gF_lt hl9]
              exact s1.tf i d0 e0
            · rcases hz with ⟨i, hi, z⟩ | ⟨i, hi, m, d0, g1, g2, g3⟩
              · exact ⟨i, List.mem_append_left _ hi, z⟩
              · rcases List.mem_append.mp hi with hi | hi
                · have hl := hIl i hi
                  rw [gE_lt hl] at g1
                  rw [gF_lt hl] at g3
                  obtain ⟨d2, g4⟩ := (s1.md i).2 m d0 g1
                  refine ⟨i, List.mem_append_right _ hi, m, d2, g4, g2, ?_⟩
                  rcases s1.gr i q g3 with z | z
                  · exact z
                  · rw [hq] at z
                    cases z
                · rw [List.mem_singleton.mp hi, gF_N] at g3
                  rcases t6 q g3 with ⟨_, z, _⟩ | z
                  · cases z
                  · rw [z.1] at hq
                    cases hq
            · rw [List.mem_append, not_or] at hi
              show (if i = E1.length + 1000 then Fs1 i else Fs3 i) = Fs i
              split
              · exact s1.fs i hi.1
              · rename_i hne
                rw [s3.fs i (by simp [hi.2, hne])]
                show (if i = E1.length + 1000 then Ft else Fs1 i) = Fs i
                rw [if_neg hne]
                exact s1.fs i hi.1
            · by_cases hne : i = E1.length + 1000
              · rw [if_pos hne] at ha
                exact s1.gr i a ha
              · rw [if_neg hne] at ha
                rcases s3.gr i a ha with z | z
                · have z : a ∈ (if i = E1.length + 1000 then Ft else Fs1 i) := z
                  rw [if_neg hne] at z
                  exact s1.gr i a z
                · exact .inr (s1.chg.back z)
            · rw [List.mem_append, not_or] at hi
              rw [setIO_out hi.2]
              exact s1.env i hi.1
            · have h1 := s1.md i
              refine ⟨fun m d0 e => ?_, fun m d0 e => ?_⟩
              · obtain ⟨d2, e2⟩ := h1.1 m d0 e
                have hl := lt_of_some e2
                obtain ⟨d3, e3⟩ := (s3.md i).1 m d2 (by rw [gE_lt hl]; exact e2)
                exact ⟨d3, by rw [← e3]; exact (gE_lt (by rw [sl]; exact hl)).symm⟩
              · have hl : i < E1.length := by rw [← sl]; exact lt_of_some e
                obtain ⟨d2, e2⟩ := (s3.md i).2 m d0 (by rw [gE_lt (by rw [sl]; exact hl)]; exact e)
                rw [gE_lt hl] at e2
                exact h1.2 m d2 e2
          have lo2 : ∀ a, Loose H (gE (setIO E1 IO ds0) (some (.own, dl))) Fs3 a → Loose H (setIO E1 IO ds0) (fun i => if i = E1.length + 1000 then Fs1 i else Fs3 i) a := fun a z => ⟨z.1, fun i hi hm => by
            have hm : a ∈ (if i = E1.length + 1000 then Fs1 i else Fs3 i) := hm
            rw [if_neg (by have := hFN i hi; omega)] at hm
            exact z.2 i (asg_gE hi).2 hm⟩
          rw [hE'] at q
          refine q v H3 _ A R4 s4 rA ?_
          cases ro with
          | true =>
            refine ⟨kA.1, fun a ha => ?_⟩
            rcases kA.2 a ha with ⟨_, z, _⟩ | z
            · cases z
            · exact .inr (lo2 a z)
          | false =>
            intro a ha
            rcases kA a ha with ⟨_, z, _⟩ | z
            · cases z
            · exact .inr (lo2 a z)
        · cases e
      · cases e
    · cases e
  · cases e
theorem ve_callT (F0 : TA.FnG X.prog X.w X.K X.mg X.base CX0 k f fd ps (spV G (J ++ [jt]) ro ps.length F)) (hg : X.A.guards = some []) (hr : Room k X.A) (hgl : Gl X x) (hm : X.mg x = some (.ref f)) (hkp : PySem.W.keepIn X.K (.ref f) = true)
    (hb : Binds X.K fd ps []) {E : XK} (hx : Passes CX0 X E) (IO : List Nat) (ha : VL G X (e :: es) M ks l) (hk : ioKindsT ks J jt IO = true := by rfl) (hn : ks.length = ps.length := by rfl)
    (hdb : (x == ("__debug__" : Str)) = false := by decide) (he : starEach (e :: es) X.env = (false, eval e X.env) :: starEach es X.env := by rfl) (hpl : (backTo pos (starEach es X.env)).any (·.1) = false := by rfl) :
    VE G X (.Call (.Name x p) (e :: es) [] pos) (M ++ IO) (kRet ro) (eCallT F IO l) :=
  PE.imp (TA.pe_callG F0 hg hr hgl hm hkp hb .nil hx ha hdb he hpl) fun σ H Q h => (callT_of (E := E) hk hn h).mono fun vs H1 q => by rw [List.append_nil]; exact q
end
end
end VL
set_option maxHeartbeats 4000000
namespace VL
noncomputable section
open PySem PySem.Spec PyProof.Rows L2
open GxR (TabB Tabbed)
variable [LamT]
def eRow (l : LF) : EF := fun E => match l E with
  | some (ds, E') => some (.tup ds, E')
  | none => none
end
end VL
set_option maxHeartbeats 4000000
namespace VL
noncomputable section
open PySem PySem.Spec PyProof.Rows L2
open GxR (TabB Tabbed)
variable [LamT]
end
end VL
set_option maxHeartbeats 4000000
namespace VL
noncomputable section
open PySem PySem.Spec PyProof.Rows L2
open GxR (TabB Tabbed)
variable [LamT]
section
variable {G : Gb} {X : Cx} {tg iter tg1 iter1 : Expr} {ifs ifs1 : List Expr} {scope : Scope} {own : List (Str × Nat)} {p pos pos' : Pos} {M0 W W1 vs1 : List Nat} {k k1 ke kv : Kind} {src src1 : IF} {g g1 : Bool → D → Env → Option Env} {t t1 : TF} {f fk fv : EF} {kx vx : Expr}
def opUpd : OPD
  | .dct ks ds, [.dct ls es] => if sl ((ls.all fun k => ks.all fun k' => !decide (k' = k)) && decide (ks.length + ls.length ≤ sizeLine)) then some (.dct (ks ++ ls) (ds ++ es), .non) else none
  | _, _ => none
end
end
end VL
namespace VL
open PySem
end VL
set_option maxHeartbeats 4000000
namespace VL
open PySem PySem.Spec PyProof.Rows L2
open GxR (TabB Tabbed)
variable [LamT]
noncomputable section
def sExtF (i : Nat) (f : EF) : SF := fun E => match E[i]? with
  | some (some (m, .lst ds)) => (match f E with
    | some (.lst es, E') => if m.w && D.atomL es && sl (decide (ds.length + es.length ≤ sizeLine)) then some (.nx (E'.set i (some (m, .lst (ds ++ es))))) else none
    | _ => none)
  | _ => none
end
end VL
set_option maxHeartbeats 4000000
namespace VL
open PySem PySem.Spec PyProof.Rows L2
open GxR (TabB Tabbed)
variable [LamT]
def D.one : D → Bool
  | .tup [a, b] => a.atom && (b.atom || b.flat)
  | d => d.atom || d.flat
def sRetS (k : Kind) (f : EF) : SF := fun E => match f E with
  | some (d, E') => if allNew E' k.S && d.one then some (.rt d E') else none
  | none => none
end VL
set_option maxHeartbeats 4000000
namespace TA
open PySem PySem.Spec PyProof.Rows L2
end TA
namespace VL
open PySem PySem.Spec PyProof.Rows L2
open GxR (TabB Tabbed)
variable [LamT]
noncomputable section
def pMulT : List D → Option D
  | [.tup xs, .int k] => if sl (decide (D.atomL xs = true ∧ 1 ≤ xs.length ∧ 2 ≤ k ∧ k ≤ 1000 ∧ xs.length ≤ 1000)) then some (.tup (List.replicate k.toNat xs).flatten) else if sl (decide (D.atomL xs = true ∧ 1 ≤ xs.length ∧ k = 1)) then some (.tup xs) else if sl (decide (1 ≤ xs.length ∧ k = 0)) then some (.tup []) else none
  | ds => pMul ds
end
end VL
set_option maxHeartbeats 4000000
namespace VL
open PySem PySem.Spec PyProof.Rows L2
open GxR (TabB Tabbed)
variable [LamT]
noncomputable section
def eIdx (f g : EF) : EF := fun E => match f E with
  | some (.lst ds, E1) => (match g E1 with
    | some (d, E2) => (match flatD d, flatsD ds with
      | some v, some vs => (match vs.findIdx? fun z => eqV z v with
        | some j => some (.int (j : Int), E2)
        | none => none)
      | _, _ => none)
    | none => none)
  | _ => none
section
variable {G : Gb} {X : Cx}
theorem ve_idx {o e : Expr} {M M' : List Nat} {k k' : Kind} {f g : EF} {apos cpos : Pos} (x : XOk G X) (ho : VE G X o M k f) (he : VE G X e M' k' g) (sf : k.safe (M' ++ []) = true := by rfl)
    (hbase : attributeBase o "index" X.env (eval o X.env) = eval o X.env := by rfl)
    (hfew : ((backTo cpos (starEach [e] X.env)).all (fun x => !x.1) && (backToKw cpos (keywordEach [] X.env)).all (fun x => x.1.isSome)
      && decide (([e] : List Expr).length + ([] : List Keyword).length + (if ([] : List Keyword).isEmpty then 0 else 1) < 30)) = true := by rfl)
    (hline : (apos.endLine == cpos.line) = true := by rfl) (hs : starEach [e] X.env = (false, eval e X.env) :: starEach [] X.env := by rfl) (hplain : (backTo cpos (starEach [] X.env)).any (·.1) = false := by rfl) :
    VE G X (.Call (.Attribute o "index" apos) [e] [] cpos) (M ++ (M' ++ [])) .own (eIdx f g) :=
  PE.imp (pe_bm PySem.F.plainAttrs_list PySem.F.slot_list_index PySem.F.type_list_index mt_index ho (vl_cons he vl_nil (safe_nil k') hs) hbase hfew hline hs hplain) fun σ H Q ⟨C, E, Fs, R, d, E', e, q⟩ => by
    unfold eIdx at e
    split at e
    · rename_i ds E1 e1
      split at e
      · rename_i d2 E2 e2
        split at e
        · rename_i v0 vs0 e3 e4
          split at e
          · rename_i j ej
            cases e
            refine ⟨C, E, Fs, R, .lst ds, E1, e1, fun v H1 Fs1 F R1 s1 r1 k1 => ?_⟩
            obtain ⟨a, us, A, rfl, h3, h4, rfl⟩ := rds_lst.mp r1
            refine ⟨.inl ⟨rfl, us, SqL.of h3⟩, C, E1, Fs1, R1, [d2], _, by unfold lCons lNil; rw [e2], fun vs H2 Fs2 FF R2 s2 a2 => ?_⟩
            obtain ⟨y, rfl, h1⟩ := rdsL1 a2.rds
            obtain ⟨r2, k2⟩ := k1.step R1 r1 s2 sf
            obtain ⟨a', us', A', ea, h5, h6, _⟩ := rds_lst.mp r2
            cases ea
            obtain ⟨rfl, f1, _⟩ := flatD_of e3 h1
            obtain ⟨rfl, f2, _⟩ := flatsD_of e4 h6
            obtain ⟨hj, p1, p2⟩ := List.findIdx?_eq_some_iff_getElem.mp ej
            refine ⟨a, _, _, j, _, rfl, rfl, SqL.of h5, f1, f2, List.getElem?_eq_getElem hj, p1, fun m z' hm hz => ?_, q _ H2 Fs2 [] R2 (s1.trans s2) (hInt _ _ _) ⟨List.nodup_nil, fun a ha => by cases ha⟩⟩
            obtain ⟨hml, rfl⟩ := List.getElem?_eq_some_iff.mp hz
            have := p2 m hm
            simpa using this
          · cases e
        · cases e
      · cases e
    · cases e
end
end
end VL
set_option maxHeartbeats 4000000
namespace TA
open PySem PySem.Spec PyProof.Rows L2
end TA
namespace VL
noncomputable section
open PySem PySem.Spec PyProof.Rows L2
open GxR (TabB Tabbed)
variable [LamT]
end
end VL
set_option maxHeartbeats 4000000
namespace VL
noncomputable section
open PySem PySem.Spec PyProof.Rows L2
open GxR (TabB Tabbed)
variable [LamT]
section
variable {G : Gb} {X : Cx}
theorem atomL_mem1 : ∀ {l r : List D} {d : D}, D.atomL (l ++ d :: r) = true → d.atom = true
  | [], _, _, h => by unfold D.atomL at h; exact (Bool.and_eq_true_iff.mp h).1
  | a :: l, _, _, h => by unfold D.atomL at h; exact atomL_mem1 (l := l) (Bool.and_eq_true_iff.mp h).2
theorem rdsL_snoc0 {H : Hp} {ys : List D} {vs : List V} {d : D} {v : V} (h : RdsL G H ys vs []) (r : Rds G H d v []) : RdsL G H (ys ++ [d]) (vs ++ [v]) [] :=
  rdsL_app (A := []) (B := []) h (rdsL_cons.mpr ⟨v, [], [], [], rfl, rfl, r, rdsL_nil.mpr ⟨rfl, rfl⟩⟩)
end
theorem XOk.gx {G : Gb} {X : Cx} (x : XOk G X) {k : Nat} {A : Around} (r : Room k A) {s : Shared} {H : Hp} {e : PySem.Env} {fp : List Addr} {pn : List (Addr × Obj)} : XOk G (TA.gxCx X A s H e fp pn) :=
  ⟨x.K, rfl, by have := r.un; show A.units + 3 + 70 < cLine; omega⟩
theorem fnVC {P : Program} {w : World} {G : Gb} {mg : Str → Option Value} {b0 : Heap} {x qu : Str} {st : Stmt} {f c : Addr} {fd : FuncData} {N ps : List Str} {k : Nat} {J : List Nat} {ro : Bool} {S : SF} (F : Fun G.K x qu st f fd) (hc : fd.code = .ref c) (Sc : FnScope N ps (defScope st)) (hn : ps.length ≤ N.length) (hJ : J.all (fun j => decide (j < ps.length)) = true)
    (hb : ∀ (B : Around) (ou : List PySem.Env) (s : Shared) (H : Hp) (E : XK), XOk G (cxOf CX0 P w G.K mg b0 N qu (defScope st) f (.ref c) B ou s H E).nox → (B.deeper (envOfC qu (defScope st) s.heap.objs.size f (.ref c))).guards = some [] → Room k (B.deeper (envOfC qu (defScope st) s.heap.objs.size f (.ref c))) →
      VSs G (cxOf CX0 P w G.K mg b0 N qu (defScope st) f (.ref c) B ou s H E).nox ro (defBody st) S) :
    TA.FnG P w G.K mg b0 CX0 (k + 1) f fd ps (spV G J ro ps.length (callD S N.length J)) := by
  obtain ⟨oc, od, kV, dc, pm, an, cdv, ct, osl, rfl, lk, hcd⟩ := F.ex
  cases (show cdv = .ref c from hc)
  refine TA.fnG_of lk hcd Sc spV_len fun B ou s H vs Q E hg hr h => ?_
  exact ⟨_, (hb B ou s H E ⟨rfl, rfl, show (B.deeper (envOfC qu (defScope st) s.heap.objs.size f (.ref c))).units + 70 < cLine by have := hr.un; omega⟩ hg hr).nox, post_call hn hJ h⟩
end
end VL
set_option maxHeartbeats 4000000
namespace VL
noncomputable section
open PySem PySem.Spec PyProof.Rows L2
open GxR (TabB Tabbed)
variable [LamT]
end
end VL
set_option maxHeartbeats 4000000
namespace VL
noncomputable section
open PySem PySem.Spec PyProof.Rows L2
open GxR (TabB Tabbed)
variable [LamT]
def AcN (H1 : Hp) (P : Addr) (A : List Addr) : Prop := A.Nodup ∧ ∀ a ∈ A, H1 a = none ∧ a ≠ P
theorem AcN.nil {H1 : Hp} {P : Addr} : AcN H1 P [] := ⟨List.nodup_nil, fun a ha => by cases ha⟩
theorem AcN.add {G : Gb} {σ : L2.St} {H1 H8 : Hp} {E : Env} {Fs : Nat → List Addr} {P : Addr} {A F : List Addr} {ys : List D} {us us0 : List V} {d : D} {v : V} (h : AcN H1 P A) (c : ∀ a, H8 a = none → H1 a = none) (hP : H8 P = some (.lst us0)) (r : RdsL G H8 ys us A) (k : KOk σ H8 E Fs .own d v F) : AcN H1 P (A ++ F) := by
  have lo : ∀ a ∈ F, H8 a = none := fun a ha => ((k.2 a ha).elim (fun ⟨_, z, _⟩ => by cases z) id : Loose H8 E Fs a).1
  refine ⟨?_, fun a ha => ?_⟩
  · rw [List.nodup_append]
    refine ⟨h.1, k.1, fun a ha b hb e => ?_⟩
    subst e
    obtain ⟨o, eo, _⟩ := RdsL.trk _ _ _ r a ha
    rw [lo a hb] at eo
    cases eo
  · rcases List.mem_append.mp ha with z | z
    · exact h.2 a z
    · refine ⟨c a (lo a z), fun e => ?_⟩
      have := lo a z
      rw [e, hP] at this
      cases this
section
variable {G : Gb} {X : Cx}
variable {elt tg iter tg1 iter1 : Expr} {ifs ifs1 : List Expr} {scope : Scope} {own : List (Str × Nat)} {pos : Pos} {M0 W W1 vs1 : List Nat} {k k1 : Kind} {src src1 : IF} {g g1 : Bool → D → Env → Option Env} {t t1 : TF} {f : EF}
end
end
end VL
set_option maxHeartbeats 4000000
namespace VL
open PySem PySem.Spec PyProof.Rows L2
theorem lNil_ap (E : Env) : lNil  E = (some ([], E)) := rfl
theorem lCons_ap (f : EF) (g : LF) (E : Env) : lCons f g E = (match f E with
  | some (d, E1) => (match g E1 with
    | some (ds, E2) => some (d :: ds, E2)
    | none => none)
  | none => none) := rfl
theorem ePrim_ap (p : List D → Option D) (l : LF) (E : Env) : ePrim p l E = (match l E with
  | some (ds, E') => (match p ds with
    | some d => some (d, E')
    | none => none)
  | none => none) := rfl
theorem eVar_ap (i : Nat) (E : Env) : eVar i E = (match E[i]? with
  | some (some (_, d)) => some (d, E)
  | _ => none) := rfl
theorem eC_ap (d : D) (E : Env) : eC d E = (some (d, E)) := rfl
theorem pTup_ap (ds : List D) : pTup  ds = (if sl (decide (ds.length ≤ sizeLine)) then some (.tup ds) else none) := rfl
theorem pLst_ap (ds : List D) : pLst  ds = (if sl (decide (ds.length ≤ sizeLine)) then some (.lst ds) else none) := rfl
theorem toT_ap (f : EF) (E : Env) : toT f E = (match f E with
  | some (.bl b, E') => some (b, E')
  | _ => none) := rfl
theorem tfAnd_ap (f g : TF) (E : Env) : tfAnd f g E = (match f E with
  | some (true, E') => g E'
  | some (false, E') => some (false, E')
  | none => none) := rfl
theorem tfOr_ap (f g : TF) (E : Env) : tfOr f g E = (match f E with
  | some (false, E') => g E'
  | some (true, E') => some (true, E')
  | none => none) := rfl
theorem tfNot_ap (f : TF) (E : Env) : tfNot f E = (match f E with
  | some (b, E') => some (!b, E')
  | none => none) := rfl
theorem eIf_ap (t : TF) (f g : EF) (E : Env) : eIf t f g E = (match t E with
  | some (true, E') => f E'
  | some (false, E') => g E'
  | none => none) := rfl
theorem oNone_ap (E : Env) : oNone  E = (some (none, E)) := rfl
theorem oSome_ap (f : EF) (E : Env) : oSome f E = (match f E with
  | some (.int i, E') => some (some i, E')
  | _ => none) := rfl
theorem eSlice_ap (f : EF) (lo hi : OF) (E : Env) : eSlice f lo hi E = (match f E with
  | some (d, E1) => (match lo E1 with
    | some (l, E2) => (match hi E2 with
      | some (u, E3) => (match pSlice l u [d] with
        | some r => some (r, E3)
        | none => none)
      | none => none)
    | none => none)
  | none => none) := rfl
theorem toTr_ap (f : EF) (E : Env) : toTr f E = (match f E with
  | some (d, E') => (match d.tru with
    | some b => some (b, E')
    | none => none)
  | none => none) := rfl
theorem rg1_ap (f : EF) (E : Env) : rg1 f E = (match f E with
  | some (.int n, E') => some (0, n, E')
  | _ => none) := rfl
theorem rg2_ap (f g : EF) (E : Env) : rg2 f g E = (match lCons f (lCons g lNil) E with
  | some ([.int i, .int j], E') => some (i, j, E')
  | _ => none) := rfl
theorem eListRg_ap (r : RF) (E : Env) : eListRg r E = (match r E with
  | some (a, b, E') => if rgOk a b then some (.lst ((rgI a b).map .int), E') else none
  | none => none) := rfl
theorem sNext_ap (E : Env) : sNext  E = (some (.nx E)) := rfl
theorem sSeq_ap (S T : SF) (E : Env) : sSeq S T E = (match S E with
  | some (.nx E') => T E'
  | r => r) := rfl
theorem sDrop_ap (f : EF) (E : Env) : sDrop f E = (match f E with
  | some (_, E') => some (.nx E')
  | none => none) := rfl
theorem sRet_ap (ro : Bool) (k : Kind) (f : EF) (E : Env) : sRet ro k f E = (match f E with
  | some (d, E') => if retOk ro k E' d then some (.rt d E') else none
  | none => none) := rfl
theorem sRetN_ap (E : Env) : sRetN  E = (some (.rt .non E)) := rfl
theorem sIf_ap (t : TF) (S T : SF) (E : Env) : sIf t S T E = (match t E with
  | some (true, E') => S E'
  | some (false, E') => T E'
  | none => none) := rfl
theorem sSet_ap (i : Nat) (k : Kind) (f : EF) (E : Env) : sSet i k f E = (match f E with
  | some (d, E') => if i < E'.length then some (.nx (putE E' i k d)) else none
  | none => none) := rfl
theorem gSet_ap (bk : BK) (i : Nat) (d : D) (E : Env) : gSet bk i d E = (if i < E.length then some (bindN bk i d E) else none) := rfl
theorem sAsg_ap (f : EF) (g : D → Env → Option Env) (E : Env) : sAsg f g E = (match f E with
  | some (d, E') => (match g d E' with
    | some E2 => some (.nx E2)
    | none => none)
  | none => none) := rfl
theorem sFor_ap (k : Kind) (f : IF) (g : Bool → D → Env → Option Env) (b : SF) (E : Env) : sFor k f g b E = (match f E with
  | some (ds, E') => forL (g (newAll E' k.S)) b ds (freeze E' k.S)
  | none => none) := rfl
theorem iSeq_ap (f : EF) (E : Env) : iSeq f E = (match f E with
  | some (d, E') => (match d.items with
    | some ds => some (ds, E')
    | none => none)
  | none => none) := rfl
theorem iRg_ap (r : RF) (E : Env) : iRg r E = (match r E with
  | some (a, b, E') => if rgOk a b then some ((rgI a b).map .int, E') else none
  | none => none) := rfl
theorem iEnm_ap (f : EF) (E : Env) : iEnm f E = (match f E with
  | some (d, E') => (match d.items with
    | some ds => some (enumD 0 ds, E')
    | none => none)
  | none => none) := rfl
theorem callD_ap (S : SF) (N : Nat) (J : List Nat) (ds : List D) : callD S N J ds = (match S (startE N J ds) with
  | some (.rt d E) => (match ioOut E J with
    | some ds' => some (d, ds')
    | none => none)
  | some (.nx E) => (match ioOut E J with
    | some ds' => some (.non, ds')
    | none => none)
  | _ => none) := rfl
theorem eCall_ap (F : FD) (IO : List Nat) (l : LF) (E : Env) : eCall F IO l E = (match l E with
  | some (ds, E') => if ioW E' IO then (match F ds with
    | some (d, ds') => if ds'.length = IO.length then some (d, setIO E' IO ds') else none
    | none => none) else none
  | none => none) := rfl
theorem tYesF_ap (E : Env) : tYesF  E = (some (true, E)) := rfl
theorem pName_ap (i : Nat) (E : Env) : pName i E = (match E[i]? with
  | some (some _) => some ([], E)
  | _ => none) := rfl
theorem pSub1_ap (i : Nat) (pf : PF) (f : EF) (E : Env) : pSub1 i pf f E = (match pf E with
  | some (p, E1) => if hasP E1 i p then (match f E1 with
    | some (.int j, E2) => if hasP E2 i (p ++ [.ix j]) then some (p ++ [.ix j], E2) else none
    | _ => none) else none
  | none => none) := rfl
theorem eMut_ap (T : String) (i : Nat) (pf : PF) (ks : List Kind) (l : LF) (op : OPD) (E : Env) : eMut T i pf ks l op E = (match pf E with
  | some (p, E1) => if hasT T E1 i p then (match l E1 with
    | some (ds, E2) => if storL ks ds then (match E2[i]? with
      | some (some (m, d)) => if m.w then (match getP p d with
        | some sd => (match op sd ds with
          | some (sd', res) => if res.atom then (match setP p d sd' with
            | some d' => some (res, E2.set i (some (m, d')))
            | none => none) else none
          | none => none)
        | none => none) else none
      | _ => none) else none
    | none => none) else none
  | none => none) := rfl
theorem sSetIt_ap (i : Nat) (k : Kind) (f : EF) (pf : PF) (g : EF) (E : Env) : sSetIt i k f pf g E = (match f E with
  | some (d, E1) => (match pf E1 with
    | some (p, E2) => if hasP E2 i p then (match g E2 with
      | some (ix, E3) => if storable k d && ix.atom then (match E3[i]? with
        | some (some (m, dd)) => if m.w then (match getP p dd with
          | some sd => (match opSet sd [ix, d] with
            | some (sd', _) => (match setP p dd sd' with
              | some d' => some (.nx (E3.set i (some (m, d'))))
              | none => none)
            | none => none)
          | none => none) else none
        | _ => none) else none
      | none => none) else none
    | none => none)
  | none => none) := rfl
theorem eDict0_ap (E : Env) : eDict0  E = (some (.dct [] [], E)) := rfl
theorem eDict1_ap (f g : EF) (E : Env) : eDict1 f g E = (match f E with
  | some (kd, E1) => (match keyD kd with
    | some k => (match g E1 with
      | some (d, E2) => some (.dct [k] [d], E2)
      | none => none)
    | none => none)
  | none => none) := rfl
theorem eAnd_ap (f g : EF) (E : Env) : eAnd f g E = (match f E with
  | some (d, E') => (match d.tru with
    | some true => g E'
    | some false => some (d, E')
    | none => none)
  | none => none) := rfl
theorem eOr_ap (f g : EF) (E : Env) : eOr f g E = (match f E with
  | some (d, E') => (match d.tru with
    | some true => some (d, E')
    | some false => g E'
    | none => none)
  | none => none) := rfl
theorem eNot_ap (f : EF) (E : Env) : eNot f E = (match f E with
  | some (d, E') => (match d.tru with
    | some b => some (.bl (!b), E')
    | none => none)
  | none => none) := rfl
theorem gSetIt_ap (i : Nat) (k : Kind) (pf : PF) (g : EF) (d : D) (E1 : Env) : gSetIt i k pf g d E1 = (match pf E1 with
  | some (p, E2) => if hasP E2 i p then (match g E2 with
    | some (ix, E3) => if storable k d && ix.atom then (match E3[i]? with
      | some (some (m, dd)) => if m.w then (match getP p dd with
        | some sd => (match opSet sd [ix, d] with
          | some (sd', _) => (match setP p dd sd' with
            | some d' => some (E3.set i (some (m, d')))
            | none => none)
          | none => none)
        | none => none) else none
      | _ => none) else none
    | none => none) else none
  | none => none) := rfl
theorem sPairSet_ap (i : Nat) (pf : PF) (g : EF) (j : Nat) (f : EF) (E : Env) : sPairSet i pf g j f E = (match f E with
  | some (.tup [.int a, .int b], E1) => (match gSetIt i .own pf g (.int a) E1 with
    | some E2 => if j < E2.length then some (.nx (E2.set j (some (.own, .int b)))) else none
    | none => none)
  | _ => none) := rfl
theorem lRef_ap (i : Nat) (g : LF) (E : Env) : lRef i g E = (match E[i]? with
  | some (some _) => (match g E with
    | some (ds, E') => (match E'[i]? with
      | some (some (_, d)) => some (d :: ds, E')
      | _ => none)
    | none => none)
  | _ => none) := rfl
theorem eOwn_ap (k : Kind) (f : EF) (E : Env) : eOwn k f E = (match f E with
  | some (d, E') => if storable k d then some (d, E') else none
  | none => none) := rfl
theorem sPar2_ap (i j : Nat) (l : LF) (E : Env) : sPar2 i j l E = (match l E with
  | some ([d, d'], E') => if i < E'.length ∧ j < E'.length then some (.nx ((E'.set i (some (.own, d))).set j (some (.own, d')))) else none
  | _ => none) := rfl
theorem eChain_ap (o1 o2 : Int → Int → Bool) (f g h : EF) (E : Env) : eChain o1 o2 f g h E = (match lCons f (lCons g lNil) E with
  | some ([.int i, .int j], E2) => if o1 i j then (match h E2 with
    | some (.int k, E3) => some (.bl (o2 j k), E3)
    | _ => none) else some (.bl false, E2)
  | _ => none) := rfl
theorem sAug_ap (op : Int → Int → Int) (i : Nat) (f : EF) (E : Env) : sAug op i f E = (match E[i]? with
  | some (some (_, .int a)) => (match f E with
    | some (.int b, E') => if i < E'.length then some (.nx (E'.set i (some (.own, .int (op a b))))) else none
    | _ => none)
  | _ => none) := rfl
theorem sAugIt_ap (op : Int → Int → Int) (i : Nat) (g f : EF) (E : Env) : sAugIt op i g f E = (match E[i]? with
  | some (some (m, .lst ds)) => if m.w then (match g E with
    | some (.int j, E1) => (match f E1 with
      | some (.int b, E2) => (if 0 ≤ j then (match ds[j.toNat]? with
        | some (.int a) => some (.nx (E2.set i (some (m, .lst (ds.set j.toNat (.int (op a b)))))))
        | _ => none) else none)
      | _ => none)
    | _ => none) else none
  | _ => none) := rfl
theorem sRetT_ap (ks : List Kind) (l : LF) (E : Env) : sRetT ks l E = (match l E with
  | some (ds, E') => if retTs E' ks ds [] && sl (decide (ds.length ≤ sizeLine)) then some (.rt (.tup ds) E') else none
  | none => none) := rfl
theorem sCat_ap (i : Nat) (p : List D → Option D) (l : LF) (E : Env) : sCat i p l E = (match l E with
  | some (ds, E') => (match p ds with
    | some d => (match E'[i]? with
      | some (some (.own, _)) => some (.nx (E'.set i (some (.own, d))))
      | _ => none)
    | none => none)
  | none => none) := rfl
theorem iZip2_ap (f g : EF) (E : Env) : iZip2 f g E = (match lCons f (lCons g lNil) E with
  | some ([d, d'], E') => (match d.items, d'.items with
    | some ds, some es => if d.isTup == d'.isTup then some (zipD ds es, E') else none
    | _, _ => none)
  | _ => none) := rfl
theorem eCallP_ap (F : FD) (i : Nat) (pf : PF) (E : Env) : eCallP F i pf E = (match pf E with
  | some (p, E1) => if hasP E1 i p then (match E1[i]? with
    | some (some (m, d)) => if m.w then (match getP p d with
      | some sd => (match F [sd] with
        | some (r, [sd']) => (match setP p d sd' with
          | some d' => some (r, E1.set i (some (m, d')))
          | none => none)
        | _ => none)
      | none => none) else none
    | _ => none) else none
  | none => none) := rfl
theorem sMv_ap (i j : Nat) (E : Env) : sMv i j E = (match E[i]?, E[j]? with
  | some (some (m, .lst ds)), some (some (.own, d)) => if m.w && (i != j) && sl (decide (ds.length < sizeLine)) then some (.nx ((E.set j none).set i (some (m, .lst (ds ++ [d]))))) else none
  | _, _ => none) := rfl
theorem eCallT_ap (F : FD) (IO : List Nat) (l : LF) (E : Env) : eCallT F IO l E = (match l E with
  | some (ds, E') => if ioW E' IO then (match F ds with
    | some (d, ds') => if ds'.length = IO.length + 1 then some (d, setIO E' IO ds') else none
    | none => none) else none
  | none => none) := rfl
theorem eRow_ap (l : LF) (E : Env) : eRow l E = (match l E with
  | some (ds, E') => some (.tup ds, E')
  | none => none) := rfl
theorem sExtF_ap (i : Nat) (f : EF) (E : Env) : sExtF i f E = (match E[i]? with
  | some (some (m, .lst ds)) => (match f E with
    | some (.lst es, E') => if m.w && D.atomL es && sl (decide (ds.length + es.length ≤ sizeLine)) then some (.nx (E'.set i (some (m, .lst (ds ++ es))))) else none
    | _ => none)
  | _ => none) := rfl
theorem sRetS_ap (k : Kind) (f : EF) (E : Env) : sRetS k f E = (match f E with
  | some (d, E') => if allNew E' k.S && d.one then some (.rt d E') else none
  | none => none) := rfl
theorem eIdx_ap (f g : EF) (E : Env) : eIdx f g E = (match f E with
  | some (.lst ds, E1) => (match g E1 with
    | some (d, E2) => (match flatD d, flatsD ds with
      | some v, some vs => (match vs.findIdx? fun z => eqV z v with
        | some j => some (.int (j : Int), E2)
        | none => none)
      | _, _ => none)
    | none => none)
  | _ => none) := rfl
end VL
set_option maxHeartbeats 4000000
namespace VL
variable [LamT]
open PySem PySem.Spec PyProof.Rows L2
section
variable {g : D → Env → Option Env} {b : SF} {t : TF} {f : EF} {vs : List Nat}
theorem lcL_inv_aux (I : Nat → List D → Env → Prop) : ∀ (ds : List D) (k : Nat) (acc : List D) (E : Env),
    (∀ i d acc E, ds[i]? = some d → I (k + i) acc E → ∃ E1 b E2, g d E = some E1 ∧ t E1 = some (b, E2) ∧ (b = false → I (k + i + 1) acc (wipeE E2 vs)) ∧ (b = true → ∃ y E3, f E2 = some (y, E3) ∧ I (k + i + 1) (acc ++ [y]) (wipeE E3 vs))) →
    I k acc E → ∃ ys E', lcL g t f vs ds E = some (ys, E') ∧ I (k + ds.length) (acc ++ ys) E'
  | [], k, acc, E, _, h => ⟨[], E, rfl, by simpa using h⟩
  | d :: ds, k, acc, E, st, h => by
    obtain ⟨E1, bb, E2, h1, h2, h3, h4⟩ := st 0 d acc E rfl h
    have st' : ∀ i d acc E, ds[i]? = some d → I (k + 1 + i) acc E → ∃ E1 b E2, g d E = some E1 ∧ t E1 = some (b, E2) ∧ (b = false → I (k + 1 + i + 1) acc (wipeE E2 vs)) ∧ (b = true → ∃ y E3, f E2 = some (y, E3) ∧ I (k + 1 + i + 1) (acc ++ [y]) (wipeE E3 vs)) := fun i d' acc' E' hd hi => by
      have := st (i + 1) d' acc' E' (by simpa using hd) (by rw [← Nat.add_assoc, Nat.add_right_comm]; exact hi)
      rw [show k + 1 + i + 1 = k + (i + 1) + 1 by omega]
      exact this
    cases bb with
    | false =>
      obtain ⟨ys, E', h5, h6⟩ := lcL_inv_aux I ds (k + 1) acc _ st' (h3 rfl)
      refine ⟨ys, E', ?_, by rw [List.length_cons, show k + (ds.length + 1) = k + 1 + ds.length by omega]; exact h6⟩
      simp only [lcL, h1, h2]
      exact h5
    | true =>
      obtain ⟨y, E3, h7, h8⟩ := h4 rfl
      obtain ⟨ys, E', h5, h6⟩ := lcL_inv_aux I ds (k + 1) (acc ++ [y]) _ st' h8
      refine ⟨y :: ys, E', ?_, by rw [List.length_cons, show k + (ds.length + 1) = k + 1 + ds.length by omega]; simpa using h6⟩
      simp only [lcL, h1, h2, h7, h5]
theorem lcL_inv (I : Nat → List D → Env → Prop) {ds : List D} {E : Env} (h : I 0 [] E)
    (st : ∀ i d acc E, ds[i]? = some d → I i acc E → ∃ E1 b E2, g d E = some E1 ∧ t E1 = some (b, E2) ∧ (b = false → I (i + 1) acc (wipeE E2 vs)) ∧ (b = true → ∃ y E3, f E2 = some (y, E3) ∧ I (i + 1) (acc ++ [y]) (wipeE E3 vs))) :
    ∃ ys E', lcL g t f vs ds E = some (ys, E') ∧ I ds.length ys E' := by
  obtain ⟨ys, E', h1, h2⟩ := lcL_inv_aux (g := g) (t := t) (f := f) (vs := vs) I ds 0 [] E (fun i d acc E hd hi => by rw [Nat.zero_add] at hi ⊢; exact st i d acc E hd hi) h
  rw [Nat.zero_add, List.nil_append] at h2
  exact ⟨ys, E', h1, h2⟩
theorem eLc_eq {k : Kind} {src : IF} {g : Bool → D → Env → Option Env} {M : List Nat} {E E1 E2 E3 : Env} {ds ys : List D} (h1 : src E = some (ds, E1)) (h2 : lcL (g (newAll E1 k.S)) t f vs ds (wipeE (freeze E1 k.S) vs) = some (ys, E2)) (h3 : ds.length ≤ sizeLine) (h4 : setM E1 E2 M = E3) :
    eLc k src g t f vs M E = some (.lst ys, E3) := by
  unfold eLc
  rw [h1]
  simp only [h2]
  rw [if_pos (sl_iff.mpr h3), h4]
end
abbrev nm (k : Nat) : D := .int (k : Int)
theorem rgOk_iff {a b : Int} : rgOk a b = true ↔ (-(2 ^ 62) ≤ a ∧ a < 2 ^ 62 ∧ -(2 ^ 62) ≤ b ∧ b < 2 ^ 62 ∧ (b - a).toNat ≤ 2 ^ 24) := by
  unfold rgOk
  exact sl_iff
theorem flatsD_nm : ∀ ss : List Nat, flatsD (ss.map nm) = some (ss.map fun (k : Nat) => V.int (k : Int))
  | [] => rfl
  | n :: ns => by
    show flatsD (.int n :: ns.map nm) = _
    unfold flatsD
    rw [flatsD_nm ns]
    rfl
theorem inV_nm (a : Nat) (ss : List Nat) : inV (V.int (a : Int)) (ss.map fun (k : Nat) => V.int (k : Int)) = decide (a ∈ ss) := by
  unfold inV
  rw [List.any_map]
  rw [Bool.eq_iff_iff]
  simp only [List.any_eq_true, Function.comp, decide_eq_true_eq]
  constructor
  · rintro ⟨x, hx, h⟩
    have h' : ((x : Int) == (a : Int)) = true := h
    have h2 : (x : Int) = (a : Int) := by simpa using h'
    have : x = a := by omega
    rw [← this]
    exact hx
  · intro h
    exact ⟨a, h, show ((a : Int) == (a : Int)) = true by simp⟩
theorem atomL_app : ∀ a b : List D, D.atomL (a ++ b) = (D.atomL a && D.atomL b)
  | [], b => by simp [D.atomL]
  | d :: a, b => by simp [D.atomL, atomL_app a b, Bool.and_assoc]
theorem atomL_nm : ∀ ss : List Nat, D.atomL (ss.map nm) = true
  | [] => rfl
  | n :: ns => by
    show (D.atom (nm n) && D.atomL (ns.map nm)) = true
    rw [atomL_nm ns]
    rfl
theorem atI_nat {α : Type} (xs : List α) (i : Nat) : atI xs (i : Int) = xs[i]? := by
  unfold atI ixN
  by_cases h : i < xs.length
  · simp [h]
  · simp [h]
theorem pyL_nm : ∀ ss : List Nat, D.pyL (ss.map nm) = some (ss.map fun (k : Nat) => PyData.int (k : Int))
  | [] => rfl
  | n :: ns => by
    show D.pyL (.int n :: ns.map nm) = _
    unfold D.pyL
    rw [pyL_nm ns]
    rfl
theorem pEq_int (neg : Bool) (i j : Int) : pEq neg [.int i, .int j] = some (.bl (if neg then !decide (i = j) else decide (i = j))) := rfl
theorem pEq_bl (neg a b : Bool) : pEq neg [.bl a, .bl b] = some (.bl (if neg then !decide (a = b) else decide (a = b))) := rfl
theorem pEq_str (neg : Bool) (a b : Str) : pEq neg [.str a, .str b] = some (.bl (if neg then !decide (a = b) else decide (a = b))) := rfl
theorem lay_ints : ∀ ns : List Int, PyData.canLayAll0 (ns.map .int) = true
  | [] => rfl
  | n :: ns => by
    show PyData.canLayAll0 (.int n :: ns.map .int) = true
    rw [PyData.canLayAll0, lay_ints ns]
    rfl
theorem shaped_row (ns : List Int) : SeqAt.shaped (TA.rowD ns) = true := by
  unfold SeqAt.shaped
  have e1 : (TA.rowD ns).canLay0 = true := by simpa only [PyData.canLay0] using lay_ints ns
  have e2 : (TA.rowD ns).depth = 1 := by
    simp only [PyData.depth]
    rw [PySem.W.depth_ints]
  rw [e1, e2]
  rfl
theorem cast_inj : ∀ {as bs : List Nat}, (as.map fun (k : Nat) => (k : Int)) = (bs.map fun (k : Nat) => (k : Int)) → as = bs
  | [], [], _ => rfl
  | [], _ :: _, h => by simp at h
  | _ :: _, [], h => by simp at h
  | a :: as, b :: bs, h => by
    rw [List.map_cons, List.map_cons, List.cons.injEq] at h
    rw [cast_inj h.2, show a = b by omega]
theorem shaped_nm (ks : List Nat) : SeqAt.shaped (.list (ks.map fun (k : Nat) => PyData.int (k : Int))) = true := by
  have h := shaped_row (ks.map fun (k : Nat) => (k : Int))
  unfold TA.rowD at h
  rw [List.map_map] at h
  exact h
theorem eqv_nm (as bs : List Nat) : PyData.eqv (.list (as.map fun (k : Nat) => PyData.int (k : Int))) (.list (bs.map fun (k : Nat) => PyData.int (k : Int))) = decide (as = bs) := by
  have h := TA.eqv_row (as.map fun (k : Nat) => (k : Int)) (bs.map fun (k : Nat) => (k : Int))
  unfold TA.rowD at h
  rw [List.map_map, List.map_map] at h
  refine Eq.trans h ?_
  rw [Bool.eq_iff_iff]
  simp only [decide_eq_true_eq]
  constructor
  · exact cast_inj
  · intro e
    rw [e]
theorem pEq_nm (neg : Bool) (as bs : List Nat) : pEq neg [.lst (as.map nm), .lst (bs.map nm)] = some (.bl (if neg then !decide (as = bs) else decide (as = bs))) := by
  have h : pEq neg [.lst (as.map nm), .lst (bs.map nm)] = pEqv neg [.lst (as.map nm), .lst (bs.map nm)] := rfl
  rw [h]
  simp only [pEqv, D.py, pyL_nm, Option.map_some, shaped_nm, eqv_nm, Bool.and_self, if_true]
theorem pEq_nil (neg : Bool) (as : List Nat) : pEq neg [.lst (as.map nm), .lst []] = some (.bl (if neg then !decide (as = []) else decide (as = []))) := pEq_nm neg as []
theorem pIn_lst (neg : Bool) (a : Nat) (ss : List Nat) : pIn neg [.int (a : Int), .lst (ss.map nm)] = some (.bl (if neg then !decide (a ∈ ss) else decide (a ∈ ss))) := by
  simp only [pIn, D.has, flatD, flatsD_nm, inV_nm, Option.map_some]
theorem pIn_tup (neg : Bool) (a : Nat) (ss : List Nat) : pIn neg [.int (a : Int), .tup (ss.map nm)] = some (.bl (if neg then !decide (a ∈ ss) else decide (a ∈ ss))) := by
  simp only [pIn, D.has, flatD, flatsD_nm, inV_nm, Option.map_some]
theorem atI_0 {α : Type} (x : α) (xs : List α) : atI (x :: xs) 0 = some x := by
  have := atI_nat (x :: xs) 0
  simpa using this
theorem atI_1 {α : Type} (x y : α) (xs : List α) : atI (x :: y :: xs) 1 = some y := by
  have := atI_nat (x :: y :: xs) 1
  simpa using this
theorem atI_2 {α : Type} (x y z : α) (xs : List α) : atI (x :: y :: z :: xs) 2 = some z := by
  have := atI_nat (x :: y :: z :: xs) 2
  simpa using this
theorem atI_3 {α : Type} (x y z u : α) (xs : List α) : atI (x :: y :: z :: u :: xs) 3 = some u := by
  have := atI_nat (x :: y :: z :: u :: xs) 3
  simpa using this
theorem rg_1 (n : Nat) : (rgI 1 (n : Int)).map D.int = (List.range (n - 1)).map fun i => nm (1 + i) := by
  unfold rgI
  rw [List.map_map, show ((n : Int) - 1).toNat = n - 1 by omega]
  exact List.map_congr_left fun i _ => by simp [nm]
theorem rgOk_1 {n : Nat} (h : n ≤ 1000) : rgOk 1 (n : Int) = true := by
  rw [rgOk_iff]
  omega
end VL
set_option maxHeartbeats 4000000
namespace VL
variable [LamT]
open PySem PySem.Spec PyProof.Rows L2
mutual
def D.sh (b : Bool) : Nat → D → Bool
  | _, .non => true
  | _, .bl _ => b
  | _, .int _ => true
  | _, .str s => PyData.strOk s
  | n + 1, .tup ds => D.shL b n ds
  | n + 1, .lst ds => D.shL b n ds
  | _, _ => false
def D.shL (b : Bool) : Nat → List D → Bool
  | _, [] => true
  | n, d :: ds => D.sh b n d && D.shL b n ds
end
theorem shL_iff {b : Bool} {n : Nat} : ∀ {ds : List D}, D.shL b n ds = true ↔ ∀ d ∈ ds, D.sh b n d = true
  | [] => by simp [D.shL]
  | d :: ds => by simp [D.shL, shL_iff (ds := ds)]
theorem sh_non {b : Bool} {n : Nat} : D.sh b n .non = true := by unfold D.sh; rfl
theorem sh_int {b : Bool} {n : Nat} (i : Int) : D.sh b n (.int i) = true := by unfold D.sh; rfl
theorem sh_bl {n : Nat} (i : Bool) : D.sh true n (.bl i) = true := by unfold D.sh; rfl
theorem sh_lst {b : Bool} {n : Nat} {ds : List D} : D.sh b (n + 1) (.lst ds) = true ↔ ∀ d ∈ ds, D.sh b n d = true := by
  rw [← shL_iff]
  unfold D.sh
  rfl
theorem sh_tup {b : Bool} {n : Nat} {ds : List D} : D.sh b (n + 1) (.tup ds) = true ↔ ∀ d ∈ ds, D.sh b n d = true := by
  rw [← shL_iff]
  unfold D.sh
  rfl
mutual
theorem sh_py {b : Bool} : ∀ (n : Nat) (d : D), D.sh b n d = true → ∃ p, d.py = some p ∧ p.canLay0 = true ∧ p.depth ≤ n
  | n, .non, _ => ⟨.none, by unfold D.py; rfl, by simp [PyData.canLay0], by simp [PyData.depth]⟩
  | n, .bl x, _ => ⟨.bool x, by unfold D.py; rfl, by simp [PyData.canLay0], by simp [PyData.depth]⟩
  | n, .int i, _ => ⟨.int i, by unfold D.py; rfl, by simp [PyData.canLay0], by simp [PyData.depth]⟩
  | n, .str s, h => ⟨.str s, by unfold D.py; rfl, by unfold D.sh at h; simpa [PyData.canLay0] using h, by simp [PyData.depth]⟩
  | n + 1, .tup ds, h => by
    unfold D.sh at h
    obtain ⟨ps, e, h1, h2⟩ := shL_py n ds h
    exact ⟨.tuple ps, by unfold D.py; rw [e]; rfl, by simpa [PyData.canLay0] using h1, by simp [PyData.depth]; omega⟩
  | n + 1, .lst ds, h => by
    unfold D.sh at h
    obtain ⟨ps, e, h1, h2⟩ := shL_py n ds h
    exact ⟨.list ps, by unfold D.py; rw [e]; rfl, by simpa [PyData.canLay0] using h1, by simp [PyData.depth]; omega⟩
  | 0, .tup ds, h => by unfold D.sh at h; cases h
  | 0, .lst ds, h => by unfold D.sh at h; cases h
  | _, .dct _ _, h => by unfold D.sh at h; cases h
  | _, .obj _ _ _, h => by unfold D.sh at h; cases h
  | _, .scr _, h => by unfold D.sh at h; cases h
theorem shL_py {b : Bool} : ∀ (n : Nat) (ds : List D), D.shL b n ds = true → ∃ ps, D.pyL ds = some ps ∧ PyData.canLayAll0 ps = true ∧ PyData.depthAll ps ≤ n
  | n, [], _ => ⟨[], by unfold D.pyL; rfl, by simp [PyData.canLayAll0], by simp [PyData.depthAll]⟩
  | n, d :: ds, h => by
    unfold D.shL at h
    rw [Bool.and_eq_true] at h
    obtain ⟨p, e1, h1, h2⟩ := sh_py n d h.1
    obtain ⟨ps, e2, h3, h4⟩ := shL_py n ds h.2
    exact ⟨p :: ps, by unfold D.pyL; rw [e1, e2], by simp [PyData.canLayAll0, h1, h3], by simp [PyData.depthAll]; omega⟩
end
mutual
theorem py_ne : ∀ (n : Nat) (x y : D) (p q : PyData), D.sh false n x = true → D.sh false n y = true → x.py = some p → y.py = some q → PyData.eqv p q = true → x = y
  | n, x, y, p, q, hx, hy, ex, ey, h => by
    cases n with
    | zero =>
      cases x <;> unfold D.sh at hx <;> first | cases hx | skip
      all_goals
        cases y <;> unfold D.sh at hy <;> first | cases hy | skip
      all_goals
        unfold D.py at ex ey
        cases ex
        cases ey
        first
        | rfl
        | (simp [PyData.eqv] at h; first | (subst h; rfl) | done)
        | (exfalso; revert h; simp [PyData.eqv]; done)
    | succ n =>
      cases x <;> unfold D.sh at hx <;> first | cases hx | skip
      all_goals
        cases y <;> unfold D.sh at hy <;> first | cases hy | skip
      all_goals
        unfold D.py at ex ey
        first
        | (obtain ⟨ps, e1, rfl⟩ := Option.map_eq_some_iff.mp ex
           obtain ⟨qs, e2, rfl⟩ := Option.map_eq_some_iff.mp ey
           first
           | (rw [PyData.eqv] at h
              rw [pyL_ne n _ _ _ _ hx hy e1 e2 h])
           | (exfalso; revert h; simp [PyData.eqv]; done))
        | (obtain ⟨ps, e1, rfl⟩ := Option.map_eq_some_iff.mp ex
           cases ey
           exfalso; revert h; simp [PyData.eqv]; done)
        | (obtain ⟨qs, e2, rfl⟩ := Option.map_eq_some_iff.mp ey
           cases ex
           exfalso; revert h; simp [PyData.eqv]; done)
        | (cases ex
           cases ey
           first
           | rfl
           | (simp [PyData.eqv] at h; first | (subst h; rfl) | done)
           | (exfalso; revert h; simp [PyData.eqv]; done))
theorem pyL_ne : ∀ (n : Nat) (xs ys : List D) (ps qs : List PyData), D.shL false n xs = true → D.shL false n ys = true → D.pyL xs = some ps → D.pyL ys = some qs → PyData.eqvAll ps qs = true → xs = ys
  | n, [], [], _, _, _, _, _, _, _ => rfl
  | n, [], y :: ys, ps, qs, hx, hy, ex, ey, h => by
    exfalso
    unfold D.pyL at ex ey
    cases ex
    split at ey
    · cases ey
      simp [PyData.eqvAll] at h
    · cases ey
  | n, x :: xs, [], ps, qs, hx, hy, ex, ey, h => by
    exfalso
    unfold D.pyL at ex ey
    cases ey
    split at ex
    · cases ex
      simp [PyData.eqvAll] at h
    · cases ex
  | n, x :: xs, y :: ys, ps, qs, hx, hy, ex, ey, h => by
    unfold D.shL at hx hy
    rw [Bool.and_eq_true] at hx hy
    unfold D.pyL at ex ey
    split at ex
    · rename_i p ps' e1 e2
      cases ex
      split at ey
      · rename_i q qs' e3 e4
        cases ey
        rw [PyData.eqvAll, Bool.and_eq_true] at h
        rw [py_ne n x y p q hx.1 hy.1 e1 e3 h.1, pyL_ne n xs ys ps' qs' hx.2 hy.2 e2 e4 h.2]
      · cases ey
    · cases ex
end
theorem pEq_gen {neg : Bool} {x y : D} {p q : PyData} (hx : x.py = some p) (hy : y.py = some q) (sx : SeqAt.shaped p = true) (sy : SeqAt.shaped q = true) : pEq neg [x, y] = some (.bl (if neg then !PyData.eqv p q else PyData.eqv p q)) := by
  unfold pEq
  split
  · rename_i a b e
    cases e
    unfold D.py at hx hy
    cases hx
    cases hy
    have : PyData.eqv (.str a) (.str b) = decide (a = b) := by
      simp only [PyData.eqv]
      by_cases z : a = b <;> simp [z]
    rw [this]
  · rename_i a b e
    cases e
    unfold D.py at hx hy
    cases hx
    cases hy
    have : PyData.eqv (.bool a) (.bool b) = decide (a = b) := by
      cases a <;> cases b <;> simp [PyData.eqv]
    rw [this]
  · unfold pEqv
    split
    · rename_i i j e
      cases e
      unfold D.py at hx hy
      cases hx
      cases hy
      rw [TA.eqv_int i j]
    · rename_i a b _ e
      cases e
      simp only [hx, hy, sx, sy, Bool.and_self, if_true]
    · rename_i h1 h2
      exact absurd rfl (h2 x y)
theorem pEq_same {neg : Bool} {n : Nat} {x : D} (h : D.sh true n x = true) (hn : n ≤ 64) : pEq neg [x, x] = some (.bl (!neg)) := by
  obtain ⟨p, e, h1, h2⟩ := sh_py n x h
  have s : SeqAt.shaped p = true := by
    unfold SeqAt.shaped
    rw [h1, decide_eq_true (by omega)]
    rfl
  rw [pEq_gen e e s s, PySem.SeqAt.eqv_refl _ h1]
  cases neg <;> rfl
theorem pEq_diff {neg : Bool} {n : Nat} {x y : D} (hx : D.sh false n x = true) (hy : D.sh false n y = true) (hn : n ≤ 64) (ne : x ≠ y) : pEq neg [x, y] = some (.bl neg) := by
  obtain ⟨p, e, h1, h2⟩ := sh_py n x hx
  obtain ⟨q, e', h1', h2'⟩ := sh_py n y hy
  have s : SeqAt.shaped p = true := by
    unfold SeqAt.shaped
    rw [h1, decide_eq_true (by omega)]
    rfl
  have s' : SeqAt.shaped q = true := by
    unfold SeqAt.shaped
    rw [h1', decide_eq_true (by omega)]
    rfl
  have z : PyData.eqv p q = false := by
    cases hz : PyData.eqv p q with
    | false => rfl
    | true => exact absurd (py_ne n x y p q hx hy e e' hz) ne
  rw [pEq_gen e e' s s', z]
  cases neg <;> rfl
mutual
theorem sh_mono : ∀ (n : Nat) (d : D), D.sh false n d = true → D.sh true n d = true
  | n, .non, _ => sh_non
  | n, .bl x, h => sh_bl x
  | n, .int i, _ => sh_int i
  | n, .str s, h => by unfold D.sh at h ⊢; exact h
  | n + 1, .tup ds, h => by
    unfold D.sh at h ⊢
    exact shL_mono n ds h
  | n + 1, .lst ds, h => by
    unfold D.sh at h ⊢
    exact shL_mono n ds h
  | 0, .tup ds, h => by unfold D.sh at h; cases h
  | 0, .lst ds, h => by unfold D.sh at h; cases h
  | _, .dct _ _, h => by unfold D.sh at h; cases h
  | _, .obj _ _ _, h => by unfold D.sh at h; cases h
  | _, .scr _, h => by unfold D.sh at h; cases h
theorem shL_mono : ∀ (n : Nat) (ds : List D), D.shL false n ds = true → D.shL true n ds = true
  | n, [], _ => by unfold D.shL; rfl
  | n, d :: ds, h => by
    unfold D.shL at h ⊢
    rw [Bool.and_eq_true] at h ⊢
    exact ⟨sh_mono n d h.1, shL_mono n ds h.2⟩
end
theorem pEq_dec {neg : Bool} {n : Nat} {x y : D} (hx : D.sh false n x = true) (hy : D.sh false n y = true) (hn : n ≤ 64) (p : Prop) [Decidable p] (hp : p ↔ x = y) : pEq neg [x, y] = some (.bl (if neg then !decide p else decide p)) := by
  by_cases h : x = y
  · have := hp.mpr h
    subst h
    rw [pEq_same (sh_mono n _ hx) hn]
    cases neg <;> simp [this]
  · have : ¬ p := fun z => h (hp.mp z)
    rw [pEq_diff hx hy hn h]
    cases neg <;> simp [this]
end VL
set_option maxHeartbeats 4000000
namespace VL
variable [LamT]
open PySem PySem.Spec PyProof.Rows L2
structure RpD (d : D) (w n : Nat) : Prop where
  py : ∃ p, d.py = some p ∧ TA.Fit p w n ∧ PyData.strOk p.shown = true
structure RpL (ds : List D) (w n : Nat) : Prop where
  py : ∃ ps, D.pyL ds = some ps ∧ TA.FitAll ps w n ∧ ∀ t ∈ PyData.shownAll ps, PyData.strOk t = true
theorem RpD.up {d : D} {w w' n n' : Nat} (h : RpD d w n) (hw : w ≤ w') (hn : n ≤ n') : RpD d w' n' := by
  obtain ⟨p, e, f, s⟩ := h.py
  exact ⟨p, e, f.up hw hn, s⟩
theorem RpL.up {d : List D} {w w' n n' : Nat} (h : RpL d w n) (hw : w ≤ w') (hn : n ≤ n') : RpL d w' n' := by
  obtain ⟨p, e, f, s⟩ := h.py
  exact ⟨p, e, f.up hw hn, s⟩
theorem RpD.lst {ds : List D} {w n : Nat} (h : RpD (.lst ds) w n) (hw : w ≤ 160000) (hn : n ≤ 30) : ∃ s, pRepr [.lst ds] = some (.str s) ∧ PyData.strOk s = true := by
  obtain ⟨p, e, f, so⟩ := h.py
  have hd : isDisplay p = true := by
    unfold D.py at e
    obtain ⟨ps, _, rfl⟩ := Option.map_eq_some_iff.mp e
    rfl
  have sh := f.shows hd hw hn
  refine ⟨p.shown, ?_, so⟩
  simp only [pRepr, e, sl_eq, sh.disp, sh.show_, sh.nodict, Bool.not_false, Bool.and_self, decide_eq_true sh.deep, decide_eq_true sh.size, if_true]
theorem RpD.tup {ds : List D} {w n : Nat} (h : RpD (.tup ds) w n) (hw : w ≤ 160000) (hn : n ≤ 30) : ∃ s, pRepr [.tup ds] = some (.str s) ∧ PyData.strOk s = true := by
  obtain ⟨p, e, f, so⟩ := h.py
  have hd : isDisplay p = true := by
    unfold D.py at e
    obtain ⟨ps, _, rfl⟩ := Option.map_eq_some_iff.mp e
    rfl
  have sh := f.shows hd hw hn
  refine ⟨p.shown, ?_, so⟩
  simp only [pRepr, e, sl_eq, sh.disp, sh.show_, sh.nodict, Bool.not_false, Bool.and_self, decide_eq_true sh.deep, decide_eq_true sh.size, if_true]
end VL
set_option maxHeartbeats 4000000
namespace VL
variable [LamT]
open PySem PySem.Spec PyProof.Rows L2
def Wp (S : SF) (E : Env) (Q : Out → Prop) : Prop := ∃ o, S E = some o ∧ Q o
def Aft (T : SF) (Q : Out → Prop) : Out → Prop
  | .nx E => Wp T E Q
  | o => Q o
theorem Aft_nx (T : SF) (Q : Out → Prop) (E : Env) : Aft T Q (.nx E) = Wp T E Q := rfl
theorem Aft_rt (T : SF) (Q : Out → Prop) (d : D) (E : Env) : Aft T Q (.rt d E) = Q (.rt d E) := rfl
theorem wp_seq {S T : SF} {E : Env} {Q : Out → Prop} (h : Wp S E (Aft T Q)) : Wp (sSeq S T) E Q := by
  obtain ⟨o, h1, h2⟩ := h
  cases o with
  | nx E' =>
    obtain ⟨o, h3, h4⟩ := h2
    exact ⟨o, by simp only [sSeq_ap, h1, h3], h4⟩
  | rt d E' => exact ⟨_, by simp only [sSeq_ap, h1], h2⟩
  | bk E' => exact ⟨_, by simp only [sSeq_ap, h1], h2⟩
  | ct E' => exact ⟨_, by simp only [sSeq_ap, h1], h2⟩
theorem wp_of {S : SF} {E : Env} {Q : Out → Prop} {o : Out} (h : S E = some o) (q : Q o) : Wp S E Q := ⟨o, h, q⟩
theorem wp_eq {S : SF} {E E' : Env} {Q : Out → Prop} (h : S E = some (.nx E')) (q : Q (.nx E')) : Wp S E Q := ⟨_, h, q⟩
def LoopQ (I : Nat → Env → Prop) (i : Nat) (Q : Out → Prop) : Out → Prop
  | .nx E3 => I (i + 1) E3
  | .ct E3 => I (i + 1) E3
  | .bk E3 => Q (.nx E3)
  | .rt r E3 => Q (.rt r E3)
theorem lq_nx {I : Nat → Env → Prop} {i : Nat} {Q : Out → Prop} {E : Env} (h : I (i + 1) E) : LoopQ I i Q (.nx E) := h
theorem wp_for {k : Kind} {f : IF} {g : Bool → D → Env → Option Env} {b : SF} {E E1 : Env} {ds : List D} {Q : Out → Prop} (I : Nat → Env → Prop) (h1 : f E = some (ds, E1)) (h2 : I 0 (freeze E1 k.S))
    (st : ∀ i d E, ds[i]? = some d → I i E → ∃ E2, g (newAll E1 k.S) d E = some E2 ∧ Wp b E2 (LoopQ I i Q))
    (h3 : ∀ E2, I ds.length E2 → Q (.nx E2)) : Wp (sFor k f g b) E Q := by
  have key : ∀ (l : List D) (j : Nat) (E : Env), (∀ i d, l[i]? = some d → ds[j + i]? = some d) → j + l.length = ds.length → I j E → ∃ o, forL (g (newAll E1 k.S)) b l E = some o ∧ Q o := fun l => by
    induction l with
    | nil =>
      intro j E _ hl hi
      exact ⟨_, rfl, h3 E (by rw [← hl]; exact hi)⟩
    | cons d l ih =>
      intro j E hd hl hi
      obtain ⟨E2, a1, o, a2, a3⟩ := st j d E (hd 0 d rfl) hi
      have nxt : ∀ E3, I (j + 1) E3 → ∃ o, forL (g (newAll E1 k.S)) b l E3 = some o ∧ Q o := fun E3 hi3 => ih (j + 1) E3 (fun i d' h => by
        have := hd (i + 1) d' (by simpa using h)
        rw [show j + 1 + i = j + (i + 1) by omega]
        exact this) (by simp at hl; omega) hi3
      cases o with
      | nx E3 =>
        obtain ⟨o, b1, b2⟩ := nxt E3 a3
        exact ⟨o, by simp only [forL, a1, a2, b1], b2⟩
      | ct E3 =>
        obtain ⟨o, b1, b2⟩ := nxt E3 a3
        exact ⟨o, by simp only [forL, a1, a2, b1], b2⟩
      | bk E3 => exact ⟨_, by simp only [forL, a1, a2], a3⟩
      | rt r E3 => exact ⟨_, by simp only [forL, a1, a2], a3⟩
  obtain ⟨o, a, b⟩ := key ds 0 _ (fun i d h => by rw [Nat.zero_add]; exact h) (by omega) h2
  exact ⟨o, by simp only [sFor_ap, h1, a], b⟩
def CallQ (R : D → List D → Prop) (J : List Nat) : Out → Prop
  | .rt d E => ∃ ds', ioOut E J = some ds' ∧ R d ds'
  | .nx E => ∃ ds', ioOut E J = some ds' ∧ R .non ds'
  | _ => False
theorem cq_rt {R : D → List D → Prop} {J : List Nat} {d : D} {E : Env} {ds' : List D} (h : ioOut E J = some ds') (r : R d ds') : CallQ R J (.rt d E) := ⟨ds', h, r⟩
theorem cq_nx {R : D → List D → Prop} {J : List Nat} {E : Env} {ds' : List D} (h : ioOut E J = some ds') (r : R .non ds') : CallQ R J (.nx E) := ⟨ds', h, r⟩
theorem wp_call {S : SF} {N : Nat} {J : List Nat} {ds : List D} (R : D → List D → Prop) (h : Wp S (startE N J ds) (CallQ R J)) : ∃ d ds', callD S N J ds = some (d, ds') ∧ R d ds' := by
  obtain ⟨o, h1, h2⟩ := h
  cases o with
  | rt d E =>
    obtain ⟨ds', h3, h4⟩ := h2
    exact ⟨d, ds', by simp only [callD_ap, h1, h3], h4⟩
  | nx E =>
    obtain ⟨ds', h3, h4⟩ := h2
    exact ⟨.non, ds', by simp only [callD_ap, h1, h3], h4⟩
  | bk E => exact h2.elim
  | ct E => exact h2.elim
section
variable {k : Kind} {src : IF} {g : Bool → D → Env → Option Env} {t : TF} {f : EF} {vs M : List Nat} {E E1 : Env} {ds : List D}
theorem setM_nil (A B : Env) : setM A B [] = A := rfl
theorem eLc_inv (I : Nat → List D → Env → Prop) (h1 : src E = some (ds, E1)) (hl : ds.length ≤ 16777216) (h2 : I 0 [] (wipeE (freeze E1 k.S) vs))
    (st : ∀ i d acc E, ds[i]? = some d → I i acc E → ∃ E2 b E3, g (newAll E1 k.S) d E = some E2 ∧ t E2 = some (b, E3) ∧ (b = false → I (i + 1) acc (wipeE E3 vs)) ∧ (b = true → ∃ y E4, f E3 = some (y, E4) ∧ I (i + 1) (acc ++ [y]) (wipeE E4 vs))) :
    ∃ ys E2, I ds.length ys E2 ∧ eLc k src g t f vs M E = some (.lst ys, setM E1 E2 M) := by
  obtain ⟨ys, E2, a, b⟩ := lcL_inv (g := g (newAll E1 k.S)) (t := t) (f := f) (vs := vs) I h2 st
  exact ⟨ys, E2, b, eLc_eq h1 a (by rw [sizeLine_eq]; exact hl) rfl⟩
theorem eLc_acc (A : Nat → List D) (h0 : A 0 = []) (h1 : src E = some (ds, E1)) (hl : ds.length ≤ 16777216)
    (st : ∀ (i : Nat) (d : D), ds[i]? = some d → ∃ E2 b E3, g (newAll E1 k.S) d (wipeE (freeze E1 k.S) vs) = some E2 ∧ t E2 = some (b, E3) ∧ (b = false → A (i + 1) = A i ∧ wipeE E3 vs = wipeE (freeze E1 k.S) vs) ∧ (b = true → ∃ y E4, f E3 = some (y, E4) ∧ A (i + 1) = A i ++ [y] ∧ wipeE E4 vs = wipeE (freeze E1 k.S) vs)) :
    eLc k src g t f vs [] E = some (.lst (A ds.length), E1) := by
  obtain ⟨ys, E2, ⟨a, _⟩, b⟩ := eLc_inv (M := []) (k := k) (src := src) (g := g) (t := t) (f := f) (vs := vs) (fun i acc E => acc = A i ∧ E = wipeE (freeze E1 k.S) vs) h1 hl ⟨h0.symm, rfl⟩ (by
    rintro i d acc E hd ⟨rfl, rfl⟩
    obtain ⟨E2, b, E3, a1, a2, a3, a4⟩ := st i d hd
    refine ⟨E2, b, E3, a1, a2, fun z => ⟨(a3 z).1.symm, (a3 z).2⟩, fun z => ?_⟩
    obtain ⟨y, E4, c1, c2, c3⟩ := a4 z
    exact ⟨y, E4, c1, c2.symm, c3⟩)
  rw [b, a, setM_nil]
theorem eLc_each (ys : List D) (h1 : src E = some (ds, E1)) (hy : ys.length = ds.length) (hl : ds.length ≤ 16777216)
    (st : ∀ (i : Nat) (d y : D), ds[i]? = some d → ys[i]? = some y → ∃ E2, g (newAll E1 k.S) d (wipeE (freeze E1 k.S) vs) = some E2 ∧ ∃ E3, t E2 = some (true, E3) ∧ ∃ E4, f E3 = some (y, E4) ∧ wipeE E4 vs = wipeE (freeze E1 k.S) vs) :
    eLc k src g t f vs [] E = some (.lst ys, E1) := by
  have := eLc_acc (k := k) (src := src) (g := g) (t := t) (f := f) (vs := vs) (fun i => ys.take i) rfl h1 hl (fun i d hd => by
    have hi := (List.getElem?_eq_some_iff.mp hd).1
    have hyi : ys[i]? = some ys[i] := List.getElem?_eq_getElem (by omega)
    obtain ⟨E2, a1, E3, a2, E4, a3, a4⟩ := st i d _ hd hyi
    refine ⟨E2, true, E3, a1, a2, fun z => (by cases z), fun _ => ⟨_, E4, a3, by rw [List.take_add_one, hyi]; rfl, a4⟩⟩)
  rw [this, ← hy, List.take_length]
end
theorem wp_gen {S : SF} {E : Env} {Q : Out → Prop} (h : ∀ R, R = Q → ∃ o, S E = some o ∧ R o) : Wp S E Q := h Q rfl
end VL
set_option maxHeartbeats 4000000
namespace VL
variable [LamT]
open PySem PySem.Spec PyProof.Rows L2
end VL
set_option maxHeartbeats 4000000
namespace VL
open PySem PySem.Spec PyProof.Rows L2
open GxR (TabB Tabbed)
variable [LamT]
theorem law_endT {K : PySem.W.Frag} {c : Nat → Addr} {H : Hp} {a : Addr} {ns : List Int} {F : FD} {cs : List (Addr × Addr)} {Ts : List Addr} (hT : ∀ T ∈ Ts, GxR.TabG H T) (kd : TA.Kinds K cs a H) (hS : SqL K H a (ns.map V.int)) (hF : F [.scr ns] = some (.bl true, [])) : spV ⟨K, Ts, c, none⟩ [] true 1 F [.ref a] H (fun v _ => v = .bl true) fun _ _ _ => False := by
  have sa : ScrAt K H a (ns.map V.int) := by
    rcases hS with (h | ⟨o, h⟩) | h
    · rcases kd a _ h with ⟨_, _, o, xs, z⟩ | ⟨z, _⟩ <;> cases z
    · exact .inl ⟨o, h⟩
    · exact .inr h
  refine ⟨[.scr ns], fun _ => [], rfl, ⟨rfl, fun j d e => ?x, fun j hj => (by cases hj)⟩, fun T hm => ⟨hT T hm, fun _ => ?_⟩, .bl true, [], hF, fun v H' A FA' r _ _ _ _ => (rds_bl.mp r).1⟩
  case x =>
    cases j with
    | zero =>
      cases e
      exact ⟨.ref a, rfl, rds_scr.mpr ⟨a, rfl, sa, rfl⟩⟩
    | succ j => simp at e
  obtain ⟨ps, e1, e2⟩ := hT T hm
  rcases kd T _ e1 with ⟨_, _, o, xs, z⟩ | ⟨z, _⟩
  · cases z
  · cases z
    exact ⟨#[], e1, e2, fun pos cv hc => by simp [codeAmong] at hc⟩
end VL
set_option maxHeartbeats 4000000
namespace TA
open PySem PySem.Spec PyProof.Rows L2
inductive KvI : List (Key × V) → List (PyData × PyData) → Prop
  | nil : KvI [] []
  | cons {i j : Int} {kvs : List (Key × V)} {ds : List (PyData × PyData)} : KvI kvs ds → KvI ((Sum.inl i, .int j) :: kvs) ((.int i, .int j) :: ds)
mutual
inductive Dx (K : PySem.W.Frag) (H : Hp) : V → PyData → Prop
  | plain {v : V} {d : PyData} : Dp K H v d → d.hasDict = false → Dx K H v d
  | lst {a : Addr} {xs : List V} {ds : List PyData} : SqL K H a xs → DxAll K H xs ds → Dx K H (.ref a) (.list ds)
  | tup {a : Addr} {xs : List V} {ds : List PyData} : SqT K H a xs → DxAll K H xs ds → Dx K H (.ref a) (.tuple ds)
  | dct {a : Addr} {kvs : List (Key × V)} {ds : List (PyData × PyData)} : H a = some (.dK kvs) → KvI kvs ds → Dx K H (.ref a) (.dict ds)
inductive DxAll (K : PySem.W.Frag) (H : Hp) : List V → List PyData → Prop
  | nil : DxAll K H [] []
  | cons {v : V} {vs : List V} {d : PyData} {ds : List PyData} : Dx K H v d → DxAll K H vs ds → DxAll K H (v :: vs) (d :: ds)
end
section
variable {X : Cx} {pins : List (Addr × Obj)} {σ : L2.St} {H : Hp} {s : Shared}
structure Shown1 (X : Cx) (s : Shared) (u : Value) (d : PyData) : Prop where
  reads : ∃ as, Reads s.heap u d as
  repr : ∃ bs, ReadAtMost s.heap d.depth bs ∧ ReprK X.prog X.w bs s.heap d.depth u d.shown
structure ShownN (X : Cx) (s : Shared) (us : List Value) (ds : List PyData) : Prop where
  reads : ∃ as, ReadsAll s.heap us ds as
  repr : ∃ bs, ReadAtMost s.heap (PyData.depthAll ds) bs ∧ ReprAllK X.prog X.w bs s.heap (PyData.depthAll ds) us (PyData.shownAll ds)
theorem kv_reads {h : Heap} {P : Program} {w : World} : ∀ {kvs : List (Key × V)} {ds : List (PyData × PyData)} {vs : List (Key × Value)} {es : List DictEntry}, KvI kvs ds → KV kvs vs → Pairs (mixKind P w) es vs →
    ReadsAll h (es.map (·.key)) (ds.map (·.1)) [] ∧ ReadsAll h (es.map (·.val)) (ds.map (·.2)) []
  | [], _, _, _, .nil, kv, pr => by
    cases kv
    cases pr
    exact ⟨.nil, .nil⟩
  | (Sum.inl i0, .int j0) :: _, _, _, e0 :: _, .cons k, kv, pr => by
    cases kv with
    | cons r kv =>
      cases pr with
      | cons h1 h2 pr =>
        obtain ⟨i1, i2⟩ := kv_reads (h := h) k kv pr
        obtain ⟨e1, r2⟩ := r
        rw [← e1] at h1
        have h1 : keyIs (Sum.inl i0) e0.key = true := h1
        rcases keyIs_shape h1 with ⟨i, t, e, e'⟩ | ⟨x, t, e, _⟩
        · cases e
          obtain ⟨t2, e2⟩ := r2
          rw [e2] at h2
          rw [List.map_cons, List.map_cons, List.map_cons, List.map_cons, e', h2]
          exact ⟨.cons (.int _ _) i1, .cons (.int _ _) i2⟩
        · cases e
  | (Sum.inl _, .int _) :: _, _, _, [], .cons k, kv, pr => by
    cases kv
    cases pr
theorem dict_at (I : Inv X pins σ H s) {a : Addr} {kvs : List (Key × V)} {ds : List (PyData × PyData)} (h : H a = some (.dK kvs)) (k : KvI kvs ds) : Reads s.heap (.ref a) (.dict ds) [a] ∧ (a == sysModules) = false := by
  obtain ⟨_, hs, vs, kv, o, es, ep, e1, e2, e3, _, e5, _⟩ := (show ObjOk X.prog X.w H s.heap a (.dK kvs) from I.hok a _ h)
  obtain ⟨r1, r2⟩ := kv_reads (h := s.heap) k kv e5
  exact ⟨.dict e1 e2.1 e3 r1 r2, hs⟩
mutual
theorem dx_shown (I : Inv X pins σ H s) : ∀ {v : V} {d : PyData}, Dx X.K H v d → ∀ {u : Value}, RelV v u → d.showable = true → d.shown.length ≤ sizeLine → Shown1 X s u d
  | _, _, .plain h hn, u, r, hs, hz => by
    obtain ⟨as, hr⟩ := Dp.reads I _ _ _ h r
    exact ⟨⟨as, hr⟩, ReprK.of_reads hr hs (PyData.noDict_hsm hn) hz⟩
  | _, _, .lst (a := a) (ds := ds) hq ha, u, r, hs, hz => by
    cases r
    obtain ⟨its, rv, ⟨o, n, ho, hc, _, hd⟩, _⟩ := I.list hq
    have hz' : (listText (PyData.shownAll ds)).length ≤ sizeLine := by simpa only [PyData.shown] using hz
    obtain ⟨⟨as, hr⟩, bs, hb, hk⟩ := dxAll_shown I ha rv (by simpa [PyData.showable] using hs) fun t ht => Nat.le_trans (listText_mem_le ht) hz'
    have rd : Reads s.heap (.ref a) (.list ds) _ := .list ho hc hd hr
    have hna : a ∉ bs := not_mem_of_deeper rd (by simp only [PyData.depth]; omega) hb
    refine ⟨⟨_, rd⟩, a :: bs, ReadAtMost.cons rd (by simp only [PyData.depth]; omega) hb, ?_⟩
    simp only [PyData.depth, PyData.shown]
    cases its with
    | nil =>
      cases hr
      simp only [PyData.shownAll, listText_nil]
      exact ReprK.listEmpty ho hc hd
    | cons x l => exact ReprK.list ho hc hd hna (by simpa using hk.length_eq) (fun i y e => hk.item i y (by simpa using e))
  | _, _, .tup (a := a) (ds := ds) hq ha, u, r, hs, hz => by
    cases r
    obtain ⟨its, rv, ⟨o, ho, hc, n, hd⟩, _⟩ := I.tuple hq
    have hz' : (tupleText (PyData.shownAll ds)).length ≤ sizeLine := by simpa only [PyData.shown] using hz
    obtain ⟨⟨as, hr⟩, bs, hb, hk⟩ := dxAll_shown I ha rv (by simpa [PyData.showable] using hs) fun t ht => Nat.le_trans (tupleText_mem_le ht) hz'
    have rd : Reads s.heap (.ref a) (.tuple ds) _ := .tuple ho hc hd hr
    have hna : a ∉ bs := not_mem_of_deeper rd (by simp only [PyData.depth]; omega) hb
    refine ⟨⟨_, rd⟩, a :: bs, ReadAtMost.cons rd (by simp only [PyData.depth]; omega) hb, ?_⟩
    simp only [PyData.depth, PyData.shown]
    exact ReprK.tuple ho hc hd hna hk
  | _, _, .dct (a := a) hq hk, u, r, hs, hz => by
    cases r
    obtain ⟨rd, hsys⟩ := dict_at I hq hk
    exact ⟨⟨_, rd⟩, ReprK.of_reads rd hs (fun _ hm => by rw [List.mem_singleton.mp hm] at hsys; simp at hsys) hz⟩
theorem dxAll_shown (I : Inv X pins σ H s) : ∀ {vs : List V} {ds : List PyData}, DxAll X.K H vs ds → ∀ {us : List Value}, Vals vs us → PyData.showableAll ds = true → (∀ t ∈ PyData.shownAll ds, t.length ≤ sizeLine) → ShownN X s us ds
  | _, _, .nil, us, r, _, _ => by
    cases r
    exact ⟨⟨_, .nil⟩, [], (fun _ h => nomatch h), by simp only [PyData.shownAll]; exact .nil⟩
  | _, _, .cons (d := d) (ds := ds) h1 h2, us, r, hs, hz => by
    cases r with
    | cons r1 r2 =>
      have hs' : d.showable = true ∧ PyData.showableAll ds = true := by simpa [PyData.showableAll] using hs
      obtain ⟨⟨a1, q1⟩, b1, hb1, k1⟩ := dx_shown I h1 r1 hs'.1 (hz _ (by simp only [PyData.shownAll]; exact List.mem_cons_self ..))
      obtain ⟨⟨a2, q2⟩, b2, hb2, k2⟩ := dxAll_shown I h2 r2 hs'.2 fun t ht => hz t (by simp only [PyData.shownAll]; exact List.mem_cons_of_mem _ ht)
      refine ⟨⟨_, .cons q1 q2⟩, b1 ++ b2, fun b hm => ?_, ?_⟩
      · simp only [PyData.depthAll]
        rcases List.mem_append.mp hm with hm | hm
        · obtain ⟨d', as', r', hd'⟩ := hb1 b hm
          exact ⟨d', as', r', Nat.le_trans hd' (Nat.le_max_left _ _)⟩
        · obtain ⟨d', as', r', hd'⟩ := hb2 b hm
          exact ⟨d', as', r', Nat.le_trans hd' (Nat.le_max_right _ _)⟩
      · simp only [PyData.depthAll, PyData.shownAll]
        exact .cons ((k1.more fun b hb => List.mem_append_left _ hb).level_le (Nat.le_max_left _ _)) (k2.more_le (fun b hb => List.mem_append_right _ hb) (Nat.le_max_right _ _))
end
end
structure ShowsX (d : PyData) : Prop where
  show_ : d.showable = true
  deep : d.depth ≤ 30
  size : d.shown.length ≤ sizeLine
section
variable {X : Cx}
abbrev rReprX (K : PySem.W.Frag) : List V → Hp → VK → Prop := fun xs H Q => ∃ a ds, xs = [.ref a] ∧ (∃ ys, (SqL K H a ys ∧ DxAll K H ys ds)) ∧ ShowsX (.list ds) ∧ Q (.str (PyData.list ds).shown) H
theorem call_reprX (hg : X.A.guards = some []) (hu : X.A.units + 64 < cLine) : CallR X (.builtin "repr") (rReprX X.K) := by
  intro pins s σ H xs us Q I r h
  obtain ⟨a, ds, rfl, ⟨ys, hq, ha⟩, S, q⟩ := h
  obtain ⟨u, rfl, ru⟩ := vals1 r
  cases ru
  obtain ⟨its, rv, ⟨o, n, ho, hc, _, hd⟩, _⟩ := I.list hq
  have hdp := S.deep
  have hdp' : PyData.depthAll ds + 1 ≤ 30 := by simpa only [PyData.depth] using hdp
  have hz' : (listText (PyData.shownAll ds)).length ≤ sizeLine := by simpa only [PyData.shown] using S.size
  obtain ⟨⟨as, hr⟩, bs, hb, hk⟩ := dxAll_shown I ha rv (by simpa [PyData.showable] using S.show_) fun t ht => Nat.le_trans (listText_mem_le ht) hz'
  have rd : Reads s.heap (.ref a) (.list ds) _ := .list ho hc hd hr
  have hna : a ∉ bs := not_mem_of_deeper rd (by simp only [PyData.depth]; omega) hb
  have fin : ∀ h' t tk, (∀ b o, s.heap.get? b = some o → h'.get? b = some o) → EP X pins σ Q (.str (listText (PyData.shownAll ds)) t) { s with heap := h', toks := tk } := fun h' t tk hk =>
    ⟨.str _, H, I.kept hk, ⟨_, rfl⟩, by simpa only [PyData.shown] using q⟩
  refine call_repr_slot (by omega) ⟨o, ho, hc⟩ F.slot_list_repr.toG ?_
  cases its with
  | nil =>
    cases hr
    simp only [PyData.shownAll, listText_nil] at fin
    exact call_list_repr_empty ⟨o, ho, hc⟩ ho hd ⟨_, _, rfl, fin s.heap _ _ fun _ _ e => e⟩
  | cons x l =>
    exact call_list_reprK ho hc hd hna (by simpa using hk.length_eq) (fun i y e => hk.item i y (by simpa using e)) hg (fun b _ => Clear.nil b) (by show X.A.units + 1 + _ < cLine; omega) (fun _ _ e => e) (fun h' t tk hk' => ⟨_, _, rfl, fin h' t tk hk'⟩) hz'
abbrev rReprI (_K : PySem.W.Frag) : List V → Hp → VK → Prop := fun xs H Q => ∃ a kvs ds, xs = [.ref a] ∧ H a = some (.dK kvs) ∧ KvI kvs ds ∧ ShowsX (.dict ds) ∧ Q (.str (PyData.dict ds).shown) H
theorem call_reprI (hg : X.A.guards = some []) (hu : X.A.units + 64 < cLine) : CallR X (.builtin "repr") (rReprI X.K) := by
  intro pins s σ H xs us Q I r h
  obtain ⟨a, kvs, ds, rfl, hq, hk, S, q⟩ := h
  obtain ⟨u, rfl, ru⟩ := vals1 r
  cases ru
  obtain ⟨rd, hsys⟩ := dict_at I hq hk
  refine repr_of_reads' rd S.show_ (fun _ hm => by rw [List.mem_singleton.mp hm] at hsys; simp at hsys) hg (by have := S.deep; show X.A.units + _ < cLine; omega) (fun _ _ e => e) (fun h' t tk hk' => ?_) S.size
  exact ⟨.str _, H, I.kept hk', ⟨_, rfl⟩, q⟩
end
end TA
set_option maxHeartbeats 4000000
namespace VL
noncomputable section
open PySem PySem.Spec PyProof.Rows L2
variable [LamT]
def pyKv : List Key → List D → Option (List (PyData × PyData))
  | [], [] => some []
  | .inl i :: ks, .int j :: ds => (pyKv ks ds).map fun l => (.int i, .int j) :: l
  | _, _ => none
mutual
def D.pyX : D → Option PyData
  | .non => some .none
  | .bl b => some (.bool b)
  | .int i => some (.int i)
  | .str s => some (.str s)
  | .tup ds => (D.pyXL ds).map .tuple
  | .lst ds => (D.pyXL ds).map .list
  | .dct ks ds => (pyKv ks ds).map .dict
  | _ => none
def D.pyXL : List D → Option (List PyData)
  | [] => some []
  | d :: ds => match d.pyX, D.pyXL ds with
    | some p, some ps => some (p :: ps)
    | _, _ => none
end
section
variable {G : Gb} {H : Hp}
theorem kv_of : ∀ (us : List (Key × V)) (ks : List Key) (ds : List D) (l : List (PyData × PyData)) (A : List Addr), us.map (·.1) = ks → pyKv ks ds = some l → RdsL G H ds (us.map (·.2)) A → TA.KvI us l
  | [], _, ds, l, A, h, e, r => by
    subst h
    obtain rfl : ds = [] := by
      cases ds with
      | nil => rfl
      | cons d ds => unfold RdsL at r; obtain ⟨x, _, _, _, h1, _⟩ := r; cases h1
    unfold pyKv at e
    cases e
    exact .nil
  | (k, v) :: us, _, ds, l, A, h, e, r => by
    subst h
    cases ds with
    | nil => unfold pyKv at e; cases k <;> cases e
    | cons d ds =>
      obtain ⟨x, r', A1, B1, e2, rfl, h1, h2⟩ := rdsL_cons.mp r
      cases e2
      rw [List.map_cons] at e
      cases k with
      | inr s => unfold pyKv at e; cases e
      | inl i =>
        cases d with
        | int j =>
          unfold pyKv at e
          obtain ⟨l', e3, rfl⟩ := Option.map_eq_some_iff.mp e
          obtain rfl : v = .int j := (rds_int.mp h1).1
          exact .cons (kv_of us _ ds l' B1 rfl e3 h2)
        | _ => unfold pyKv at e; cases e
mutual
theorem Rds.dx : ∀ (d : D) (v : V) (F : List Addr) (p : PyData), d.pyX = some p → Rds G H d v F → TA.Dx G.K H v p
  | .non, v, F, p, e, h => by
    unfold D.pyX at e
    cases e
    rw [(rds_non.mp h).1]
    exact .plain .non rfl
  | .bl b, v, F, p, e, h => by
    unfold D.pyX at e
    cases e
    rw [(rds_bl.mp h).1]
    exact .plain (.bl b) rfl
  | .int i, v, F, p, e, h => by
    unfold D.pyX at e
    cases e
    rw [(rds_int.mp h).1]
    exact .plain (.int i) rfl
  | .str s, v, F, p, e, h => by
    unfold D.pyX at e
    cases e
    rw [(rds_str.mp h).1]
    exact .plain (.str s) rfl
  | .tup ds, v, F, p, e, h => by
    unfold D.pyX at e
    obtain ⟨ps, e1, rfl⟩ := Option.map_eq_some_iff.mp e
    obtain ⟨a, xs, rfl, h1, h2⟩ := rds_tup.mp h
    exact .tup h1 (RdsL.dx ds xs F ps e1 h2)
  | .lst ds, v, F, p, e, h => by
    unfold D.pyX at e
    obtain ⟨ps, e1, rfl⟩ := Option.map_eq_some_iff.mp e
    obtain ⟨a, xs, A, rfl, h1, h2, rfl⟩ := rds_lst.mp h
    exact .lst (SqL.of h1) (RdsL.dx ds xs A ps e1 h2)
  | .dct ks ds, v, F, p, e, h => by
    unfold D.pyX at e
    obtain ⟨l, e1, rfl⟩ := Option.map_eq_some_iff.mp e
    obtain ⟨a, us, A, rfl, h1, ⟨h2, _⟩, h3, _⟩ := rds_dct.mp h
    exact .dct h1 (kv_of us ks ds l A h2 e1 h3)
  | .obj _ _ _, _, _, _, e, _ => by unfold D.pyX at e; cases e
  | .scr _, _, _, _, e, _ => by unfold D.pyX at e; cases e
  | .any, _, _, _, e, _ => by unfold D.pyX at e; cases e
  | .exn _ _ _, _, _, _, e, _ => by unfold D.pyX at e; cases e
theorem RdsL.dx : ∀ (ds : List D) (vs : List V) (F : List Addr) (ps : List PyData), D.pyXL ds = some ps → RdsL G H ds vs F → TA.DxAll G.K H vs ps
  | [], vs, F, ps, e, h => by
    unfold D.pyXL at e
    cases e
    obtain ⟨rfl, _⟩ := rdsL_nil.mp h
    exact .nil
  | d :: ds, vs, F, ps, e, h => by
    unfold D.pyXL at e
    obtain ⟨x, r, A, B, rfl, rfl, h1, h2⟩ := rdsL_cons.mp h
    split at e
    · rename_i p qs e1 e2
      cases e
      exact .cons (Rds.dx d x A p e1 h1) (RdsL.dx ds r B qs e2 h2)
    · cases e
end
end
def pReprX : List D → Option D
  | [.lst ds] => match D.pyXL ds with
    | some ps => if sl ((PyData.list ps).showable && decide ((PyData.list ps).depth ≤ 30) && decide ((PyData.list ps).shown.length ≤ sizeLine)) then some (.str (PyData.list ps).shown) else none
    | none => none
  | [.dct ks ds] => match pyKv ks ds with
    | some ps => if sl ((PyData.dict ps).showable && decide ((PyData.dict ps).depth ≤ 30) && decide ((PyData.dict ps).shown.length ≤ sizeLine)) then some (.str (PyData.dict ps).shown) else none
    | none => none
  | [.non] => some (.str "None")
  | [.int i] => if sl (decide (i.natAbs.log2 < 1920)) then some (.str (toString i)) else none
  | [.str s] => if sl (decide ((reprText s).length ≤ sizeLine)) then some (.str (reprText s)) else none
  | ds => pRepr ds
abbrev rReprA : List V → Hp → VK → Prop := fun xs H Q => (xs = [.non] ∧ Q (.str "None") H) ∨ (∃ i, xs = [.int i] ∧ i.natAbs.log2 < 1920 ∧ Q (.str (toString i)) H) ∨ ∃ s, xs = [.str s] ∧ (reprText s).length ≤ sizeLine ∧ Q (.str (reprText s)) H
theorem call_reprA {X : Cx} : CallR X (.builtin "repr") rReprA := by
  intro pins s σ H xs us Q I r h
  rcases h with ⟨rfl, q⟩ | ⟨i, rfl, hz, q⟩ | ⟨x, rfl, hz, q⟩
  · obtain ⟨u, rfl, ru⟩ := L2.vals1 r
    cases ru
    exact PySem.P.repr_of_none ⟨.str _, H, I.tok _, ⟨_, rfl⟩, q⟩
  · obtain ⟨u, rfl, ru⟩ := L2.vals1 r
    obtain ⟨t, rfl⟩ := ru
    exact PySem.P.repr_of_int hz ⟨.str _, H, I.tok _, ⟨_, rfl⟩, q⟩
  · obtain ⟨u, rfl, ru⟩ := L2.vals1 r
    obtain ⟨t, rfl⟩ := ru
    exact PySem.P.repr_of_str (hsz := hz) ⟨.str _, H, I.tok _, ⟨_, rfl⟩, q⟩
section
variable {G : Gb} {X : Cx}
theorem call_reprXD (hg : X.A.guards = some []) (hu : X.A.units + 64 < cLine) : CallR X (.builtin "repr") (fun xs H Q => TA.rReprX X.K xs H Q ∨ TA.rReprI X.K xs H Q ∨ rReprA xs H Q ∨ ∃ x d, xs = [x] ∧ Dp X.K H x d ∧ TA.Shows d ∧ Q (.str d.shown) H) := fun pins s σ H xs us Q I r h =>
  h.elim (TA.call_reprX hg hu pins s σ H xs us Q I r) fun h => h.elim (TA.call_reprI hg hu pins s σ H xs us Q I r) fun h => h.elim (call_reprA pins s σ H xs us Q I r) (TA.call_reprD hg hu pins s σ H xs us Q I r)
theorem prim_reprX (hK : X.K = G.K) : PrimF G (fun xs H Q => TA.rReprX X.K xs H Q ∨ TA.rReprI X.K xs H Q ∨ rReprA xs H Q ∨ ∃ x d, xs = [x] ∧ Dp X.K H x d ∧ TA.Shows d ∧ Q (.str d.shown) H) pReprX := fun H vs ds F Q d tb r e q => by
  unfold pReprX at e
  split at e
  · rename_i es
    split at e
    · rename_i ps e1
      split at e
      · rename_i hc
        cases e
        rw [sl_eq] at hc
        simp only [Bool.and_eq_true, decide_eq_true_eq] at hc
        obtain ⟨⟨c1, c2⟩, c3⟩ := hc
        obtain ⟨x, rfl, h1⟩ := rdsL1 r
        obtain ⟨a, xs, A, rfl, h2, h3, rfl⟩ := rds_lst.mp h1
        rw [hK]
        exact .inl ⟨a, ps, rfl, ⟨xs, SqL.of h2, RdsL.dx es xs A ps e1 h3⟩, ⟨c1, c2, c3⟩, q_atom (hStr _) q⟩
      · cases e
    · cases e
  · rename_i ks es
    split at e
    · rename_i ps e1
      split at e
      · rename_i hc
        cases e
        rw [sl_eq] at hc
        simp only [Bool.and_eq_true, decide_eq_true_eq] at hc
        obtain ⟨⟨c1, c2⟩, c3⟩ := hc
        obtain ⟨x, rfl, h1⟩ := rdsL1 r
        obtain ⟨a, us, A, rfl, h2, ⟨h3, _⟩, h4, _⟩ := rds_dct.mp h1
        exact .inr (.inl ⟨a, us, ps, rfl, h2, kv_of us ks es ps A h3 e1 h4, ⟨c1, c2, c3⟩, q_atom (hStr _) q⟩)
      · cases e
    · cases e
  · cases e
    obtain ⟨x, rfl, h1⟩ := rdsL1 r
    obtain ⟨rfl, _⟩ := rds_non.mp h1
    exact .inr (.inr (.inl (.inl ⟨rfl, q_atom (hStr _) q⟩)))
  · rename_i i
    split at e
    · rename_i hc
      cases e
      rw [sl_eq, decide_eq_true_eq] at hc
      obtain ⟨x, rfl, h1⟩ := rdsL1 r
      obtain ⟨rfl, _⟩ := rds_int.mp h1
      exact .inr (.inr (.inl (.inr (.inl ⟨i, rfl, hc, q_atom (hStr _) q⟩))))
    · cases e
  · rename_i i
    split at e
    · rename_i hc
      cases e
      rw [sl_eq, decide_eq_true_eq] at hc
      obtain ⟨x, rfl, h1⟩ := rdsL1 r
      obtain ⟨rfl, _⟩ := rds_str.mp h1
      exact .inr (.inr (.inl (.inr (.inr ⟨i, rfl, hc, q_atom (hStr _) q⟩))))
    · cases e
  · exact .inr (.inr (.inr (prim_repr hK H vs _ F Q d tb r e q)))
end
end
end VL
set_option maxHeartbeats 4000000
namespace VL
open PySem PySem.Spec PyProof.Rows L2
variable [LamT]
end VL
set_option maxHeartbeats 4000000
namespace TA
open PySem PySem.Spec PyProof.Rows L2
end TA
set_option maxHeartbeats 4000000
namespace TA
open PySem PySem.Spec PyProof.Rows L2
end TA
set_option maxHeartbeats 4000000
namespace TA
open PySem PySem.Spec PyProof.Rows L2
end TA
set_option maxHeartbeats 4000000
namespace TA
open PySem PySem.Spec PyProof.Rows L2
end TA
set_option maxHeartbeats 4000000
namespace VL
noncomputable section
open PySem PySem.Spec PyProof.Rows L2
open GxR (TabB Tabbed)
variable [LamT]
inductive OutX where
  | fin (o : Out) | exc (c : Nat) (ns : List Str) (ds : List D) (E : Env)
abbrev SX := Env → Option OutX
inductive Res where
  | ret (d : D) | exc (c : Nat) (ns : List Str) (ds : List D)
abbrev FX := List D → Option Res
inductive ResE where
  | val (d : D) (E : Env) | exc (c : Nat) (ns : List Str) (ds : List D) (E : Env)
abbrev EX := Env → Option ResE
end
end VL
set_option maxHeartbeats 4000000
namespace TA
open PySem PySem.Spec PyProof.Rows L2 L2H
section
variable {X : Cx}
def HotB (Y : Cx) : Prop := ∃ p, Hot1 Y.A p ∧ Y.s_0.heap.get? p.1 = some p.2 ∧ Y.H_0 p.1 = none ∧ p.1 ∉ Y.fs ∧ p.1 ∉ Y.ex
theorem HotB.at {Y : Cx} {pins : List (Addr × Obj)} {σ : L2.St} {H : Hp} {s : Shared} (c : HotB Y) (I : Inv Y pins σ H s) : ∃ x, HotX.HotAt Y.A x s.heap := by
  obtain ⟨p, ⟨h1, vs, h2, h3⟩, g1, g2, g3, g4⟩ := c
  exact ⟨p.1, h1, p.2, vs, I.base.keep p.1 p.2 g1 g2 g3 g4, h2, h3⟩
end
end TA
set_option maxHeartbeats 4000000
namespace TA
open PySem PySem.Spec PyProof.Rows L2 L2H HotX
def ZipSt (z TI TO i1 i2 a b : Addr) (i : Nat) (h : Heap) : Prop := IsZip h z TI TO .none ∧ IsPair h TI (.ref i1) (.ref i2) ∧ (∃ x y, IsPair h TO x y) ∧ h.IsListIter i1 a i ∧ h.IsListIter i2 b i
theorem five {z TI TO i1 i2 c : Addr} (h : c ∈ [z, TI, TO, i1, i2]) : c = z ∨ c = TI ∨ c = TO ∨ c = i1 ∨ c = i2 := by simpa using h
theorem ZipSt.obj {z TI TO i1 i2 a b : Addr} {i : Nat} {h : Heap} (st : ZipSt z TI TO i1 i2 a b i h) {c : Addr} (hc : c ∈ [z, TI, TO, i1, i2]) : ∃ o, h.get? c = some o ∧ ∀ v, o.data ≠ .cell v := by
  obtain ⟨s1, s2, ⟨x, y, s3⟩, ⟨o4, g4, _, d4⟩, ⟨o5, g5, _, d5⟩⟩ := st
  rcases five hc with rfl | rfl | rfl | rfl | rfl
  · exact ⟨_, s1, fun v e => nomatch e⟩
  · exact ⟨_, s2, fun v e => nomatch e⟩
  · exact ⟨_, s3, fun v e => nomatch e⟩
  · exact ⟨o4, g4, fun v e => (by rw [d4] at e; cases e)⟩
  · exact ⟨o5, g5, fun v e => (by rw [d5] at e; cases e)⟩
end TA
set_option maxHeartbeats 4000000
namespace TA
open PySem PySem.Spec PyProof.Rows L2 L2H
end TA
set_option maxHeartbeats 4000000
namespace TA
open PySem PySem.Spec PyProof.Rows L2 L2H
end TA
namespace TA
open PySem PySem.Spec PyProof.Rows L2 L2H
end TA
set_option maxHeartbeats 4000000
namespace VL
noncomputable section
open PySem PySem.Spec PyProof.Rows L2 L2H
open GxR (TabB Tabbed)
variable [LamT]
section
variable {G : Gb} {p : Addr × Nat × Option Addr} {H : Hp}
variable {C : Ctx} {σ : L2.St} {E : Env} {Fs : Nat → List Addr} {i : Nat}
end
structure XHot (G : Gb) (X : Cx) (cs : List Nat) : Prop where
  K : X.K = G.K
  un : X.A.units + 70 < cLine
  ex : ∃ a c d oe, c ∈ cs ∧ G.hot = some (a, c, d) ∧ (a, oe) ∈ X.pn ∧ Hot1 X.A (a, oe) ∧ Zc (.ref (G.cls c)) d oe ∧ ExcC X.K (G.cls c)
structure XU (G : Gb) (X : Cx) : Prop where
  K : X.K = G.K
  un : X.A.units + 70 < cLine
section
variable {G : Gb} {X : Cx} {cs : List Nat}
theorem XHot.u (x : XHot G X cs) : XU G X := ⟨x.K, x.un⟩
theorem XU.blk (x : XU G X) {s : Shared} {H : Hp} {scope : Scope} {env : PySem.Env} {fp : List Addr} : XU G (X.blk s H scope env fp) := ⟨x.K, x.un⟩
def xlk (n : Str) : List Str → List D → Option D
  | x :: ns, d :: ds => if x = n then some d else xlk n ns ds
  | _, _ => none
theorem xlk_of {H : Hp} {n : Str} : ∀ {us : List (Str × V)} {ns : List Str} {ds : List D} {F : List Addr} {d : D}, us.map (·.1) = ns → RdsL G H ds (us.map (·.2)) F → xlk n ns ds = some d → ∃ v A, us.lookup n = some v ∧ Rds G H d v A ∧ A.Sublist F
  | [], ns, ds, F, d, h1, h2, h3 => by
    subst h1
    cases ds <;> cases h3
  | (y, v) :: us, ns, ds, F, d, h1, h2, h3 => by
    subst h1
    cases ds with
    | nil => cases h3
    | cons d' ds =>
      obtain ⟨x, r, A, B, e1, rfl, g1, g2⟩ := rdsL_cons.mp h2
      cases e1
      rw [List.map_cons] at h3
      unfold xlk at h3
      rw [List.lookup_cons]
      by_cases hy : y = n
      · subst hy
        rw [if_pos rfl] at h3
        cases h3
        exact ⟨v, A, by simp, g1, List.sublist_append_left A B⟩
      · rw [if_neg hy] at h3
        obtain ⟨v', A', a1, a2, a3⟩ := xlk_of (us := us) rfl g2 h3
        refine ⟨v', A', ?_, a2, a3.trans (List.sublist_append_right A B)⟩
        have : (n == y) = false := by simpa using fun z : n = y => hy z.symm
        rw [this]
        exact a1
theorem PIH.imp {tg e : Expr} {t t' : TI} (h : PIH X tg e t) (i : ∀ σ H Q, t' σ H Q → t σ H Q) : PIH X tg e t' := ⟨fun pins s σ H Q I q => h.run pins s σ H Q I (i σ H Q q)⟩
end
end
end VL
set_option maxHeartbeats 4000000
namespace VL
variable [LamT]
noncomputable section
open PySem PySem.Spec PyProof.Rows L2 L2H
section
variable {G : Gb} {X : Cx}
inductive VJ (G : Gb) (X : Cx) : List Expr → List EF → List TE → Prop where
  | nil : VJ G X [] [] []
  | str {s : Str} {j p} {es : List Expr} {fs : List EF} {ts : List TE} (r : VJ G X es fs ts) : VJ G X (.Constant (.str s) j p :: es) (eC (.str s) :: fs) (tV G [] .own (eC (.str s)) :: ts)
  | fmt {e : Expr} {p : Pos} {k : Kind} {f : EF} {es : List Expr} {fs : List EF} {ts : List TE} (h : VE G X e [] k f) (r : VJ G X es fs ts) : VJ G X (.FormattedValue e (-1) none p :: es) (f :: fs) (tFmt (tV G [] k f) :: ts)
theorem XOk.tr (x : XOk G X) {pn : List (Addr × Obj)} {xe : Value → Shared → Prop} : XOk G (X.tr pn xe) := ⟨x.K, x.calm, x.un⟩
end
end
end VL
set_option maxHeartbeats 4000000
namespace VL
noncomputable section
open PySem PySem.Spec PyProof.Rows L2 L2H
open GxR (TabB Tabbed)
variable [LamT]
section
variable {G : Gb} {H : Hp} {a : Addr} {φ : Heap → Prop}
theorem SqT.del {K : PySem.W.Frag} (h : H a = some (.ext φ)) {b : Addr} {xs : List V} (q : SqT K H b xs) : SqT K (L2.del H a) b xs := by
  have ne : ∀ o, H b = some o → (∀ ψ, o ≠ .ext ψ) → b ≠ a := fun o e n z => by
    rw [z, h] at e
    cases e
    exact n φ rfl
  rcases q with (q | ⟨o, q⟩) | q
  · exact .inl (.inl (by rw [del_ne (ne _ q fun ψ z => by cases z)]; exact q))
  · exact .inl (.inr ⟨o, by rw [del_ne (ne _ q fun ψ z => by cases z)]; exact q⟩)
  · exact .inr q
mutual
theorem Rds.del (h : H a = some (.ext φ)) : ∀ (d : D) (v : V) (F : List Addr), Rds G H d v F → Rds G (L2.del H a) d v F
  | .non, _, _, q => by unfold Rds at q ⊢; exact q
  | .bl _, _, _, q => by unfold Rds at q ⊢; exact q
  | .int _, _, _, q => by unfold Rds at q ⊢; exact q
  | .str _, _, _, q => by unfold Rds at q ⊢; exact q
  | .tup ds, v, F, q => by
    unfold Rds at q ⊢
    obtain ⟨b, xs, h1, h2, h3⟩ := q
    exact ⟨b, xs, h1, SqT.del h h2, RdsL.del h ds xs F h3⟩
  | .lst ds, v, F, q => by
    unfold Rds at q ⊢
    obtain ⟨b, xs, A, h1, h2, h3, h4⟩ := q
    exact ⟨b, xs, A, h1, by rw [del_ne (fun z => by rw [z, h] at h2; cases h2)]; exact h2, RdsL.del h ds xs A h3, h4⟩
  | .dct ks ds, v, F, q => by
    unfold Rds at q ⊢
    obtain ⟨b, us, A, h1, h2, h3, h4, h5⟩ := q
    exact ⟨b, us, A, h1, by rw [del_ne (fun z => by rw [z, h] at h2; cases h2)]; exact h2, h3, RdsL.del h ds _ A h4, h5⟩
  | .obj k ns ds, v, F, q => by
    unfold Rds at q ⊢
    obtain ⟨b, dx, us, A, h1, h2, h3, h4, h5⟩ := q
    exact ⟨b, dx, us, A, h1, by rw [del_ne (fun z => by rw [z, h] at h2; cases h2)]; exact h2, h3, RdsL.del h ds _ A h4, h5⟩
  | .scr ns, v, F, q => by
    unfold Rds at q ⊢
    obtain ⟨b, h1, h2, h3⟩ := q
    refine ⟨b, h1, ?_, h3⟩
    rcases h2 with ⟨o, h2⟩ | h2
    · exact .inl ⟨o, by rw [del_ne (fun z => by rw [z, h] at h2; cases h2)]; exact h2⟩
    · exact .inr h2
  | .any, _, _, q => by unfold Rds at q ⊢; exact q
  | .exn c ns ds, v, F, q => by
    unfold Rds at q ⊢
    obtain ⟨b, dx, us, h1, h2, h3, h4, h5⟩ := q
    refine ⟨b, dx, us, h1, h2, ?_, h4, RdsL.del h ds _ F h5⟩
    cases dx with
    | none => exact h3
    | some x =>
      have h3 : H x = some (.xd us) := h3
      show L2.del H a x = some (.xd us)
      rw [del_ne (fun z => by rw [z, h] at h3; cases h3)]
      exact h3
theorem RdsL.del (h : H a = some (.ext φ)) : ∀ (ds : List D) (vs : List V) (F : List Addr), RdsL G H ds vs F → RdsL G (L2.del H a) ds vs F
  | [], _, _, q => by unfold RdsL at q ⊢; exact q
  | d :: ds, vs, F, q => by
    unfold RdsL at q ⊢
    obtain ⟨x, r, A, B, h1, h2, h3, h4⟩ := q
    exact ⟨x, r, A, B, h1, h2, Rds.del h d x A h3, RdsL.del h ds r B h4⟩
end
end
section
variable {P : Program} {w : World} {G : Gb} {mg : Str → Option Value} {b0 : Heap}
theorem Chg.ext {H H' : Hp} (c : Chg No H H') {q : Addr} {φ : Heap → Prop} (e : H q = some (.ext φ)) : H' q = some (.ext φ) := by
  rcases c q _ e with h | ⟨⟨ps, z⟩, _⟩ | ⟨z, _⟩
  · exact h
  · cases z
  · exact z.elim
end
end
end VL
set_option maxHeartbeats 4000000
namespace TA
open PySem PySem.Spec PyProof.Rows L2 L2H HotX
def EnmSt (z j a : Addr) (i : Nat) (h : Heap) : Prop := (∃ b, IsEnum h z j (i : Int) b) ∧ h.IsListIter j a i ∧ z ≠ j
theorem two2 {z j c : Addr} (h : c ∈ [z, j]) : c = z ∨ c = j := by simpa using h
theorem EnmSt.obj {z j a : Addr} {i : Nat} {h : Heap} (st : EnmSt z j a i h) {c : Addr} (hc : c ∈ [z, j]) : ∃ o, h.get? c = some o ∧ ∀ v, o.data ≠ .cell v := by
  obtain ⟨⟨b, s1⟩, ⟨o4, g4, _, d4⟩, _⟩ := st
  rcases two2 hc with rfl | rfl
  · exact ⟨_, s1, fun v e => nomatch e⟩
  · exact ⟨o4, g4, fun v e => (by rw [d4] at e; cases e)⟩
end TA
namespace VL
noncomputable section
open PySem PySem.Spec PyProof.Rows L2
open GxR (TabB Tabbed)
variable [LamT]
end
end VL
set_option maxHeartbeats 4000000
namespace VL
open PySem PySem.Spec PyProof.Rows L2
variable [LamT]
section
variable {G : Gb} {H : Hp}
def pFld (c : Nat) (n : Str) : List D → Option D
  | [.obj c' ns ds] => if c' = c then xlk n ns ds else none
  | _ => none
theorem rds_obj {c : Nat} {ns : List Str} {ds : List D} {v : V} {F : List Addr} : Rds G H (.obj c ns ds) v F ↔ ∃ a dx us A, v = .ref a ∧ H a = some (.ins (G.cls c) dx us) ∧ us.map (·.1) = ns ∧ RdsL G H ds (us.map (·.2)) A ∧ F = a :: A := by
  unfold Rds
  exact Iff.rfl
end
abbrev rFld (G : Gb) (c : Nat) (n : Str) : List V → Hp → VK → Prop := fun xs H Q => ∃ a dx fs v, xs = [.ref a] ∧ H a = some (.ins (G.cls c) dx fs) ∧ fs.lookup n = some v ∧ Q v H
section
variable {G : Gb} {X : Cx}
theorem prim_fld {c : Nat} {n : Str} : PrimE G (rFld G c n) (pFld c n) := fun H d1 v1 F1 vs ds F Q d tb r1 r e q => by
  unfold pFld at e
  split at e
  · rename_i c' ns es heq
    cases heq
    split at e
    · rename_i hc
      subst hc
      obtain ⟨rfl, rfl⟩ := rdsL_nil.mp r
      obtain ⟨a, dx, us, A, rfl, h1, h2, h3, rfl⟩ := rds_obj.mp r1
      obtain ⟨v, A', l1, l2, l3⟩ := xlk_of h2 h3 e
      exact ⟨a, dx, us, v, rfl, h1, l1, q v H A' l2 (l3.trans (List.sublist_cons_self ..)) (Chg.refl _ _)⟩
    · cases e
  · cases e
theorem ve_fld {c : Nat} {n : Str} {a : Expr} {M : List Nat} {k : Kind} {f : EF} {pos : Pos} (hK : X.K = G.K) (cl : Cls G.K (G.cls c)) (na : NoAttr G.K (G.cls c) n) (ha : VE G X a M k f) (hb : attributeBase a n X.env (eval a X.env) = eval a X.env := by rfl) :
    VE G X (.Attribute a n pos) M (kPart [k]) (ePrim (pFld c n) (lCons f lNil)) :=
  PE.imp (pe_fld ha hb) fun σ H Q h => (one_of (prim_part prim_fld h)).mono fun x H1 ⟨p, dx, fs, v, e, h1, h2, q⟩ => by
    cases e
    exact ⟨p, G.cls c, dx, fs, v, rfl, h1, by rw [hK]; exact cl, by rw [hK]; exact na, h2, q⟩
end
end VL
set_option maxHeartbeats 4000000
namespace VL
open PySem PySem.Spec PyProof.Rows L2
variable [LamT]
def idxS (n : Str) : List Str → Option Nat
  | [] => none
  | m :: ms => if m = n then some 0 else (idxS n ms).map (· + 1)
theorem idxS_lookup {n : Str} : ∀ {us : List (Str × V)} {j : Nat} {x : V}, idxS n (us.map (·.1)) = some j → (us.map (·.2))[j]? = some x → us.lookup n = some x
  | [], j, x, h, _ => by cases h
  | (m, u) :: us, j, x, h, e => by
    have h : (if m = n then some 0 else (idxS n (us.map (·.1))).map (· + 1)) = some j := h
    by_cases z : m = n
    · rw [if_pos z] at h
      cases h
      cases e
      rw [z]
      exact List.lookup_cons_self
    · rw [if_neg z] at h
      obtain ⟨j', h', rfl⟩ := Option.map_eq_some_iff.mp h
      rw [List.lookup_cons, show (n == m) = false from beq_eq_false_iff_ne.mpr (Ne.symm z)]
      exact idxS_lookup h' (by simpa using e)
def putND (n : Str) (d : D) : List Str → List D → List Str × List D
  | m :: ms, e :: es => if m = n then (m :: ms, d :: es) else (m :: (putND n d ms es).1, e :: (putND n d ms es).2)
  | _, _ => ([n], [d])
def opFld (c : Nat) (n : Str) : OPD := fun sd ds => match sd, ds with
  | .obj c' ns es, [d] => if c' = c then (if ns.length < 1000 then some (.obj c (putND n d ns es).1 (putND n d ns es).2, .non) else none) else none
  | _, _ => none
section
variable {G : Gb} {H : Hp}
theorem putF_rd {n : Str} {y : V} {d : D} {B : List Addr} (hB : Rds G H d y B) : ∀ {us : List (Str × V)} {ns : List Str} {ds : List D} {A : List Addr}, us.map (·.1) = ns → RdsL G H ds (us.map (·.2)) A → A.Nodup → B.Nodup → (∀ a ∈ A, a ∉ B) →
    ∃ A', (putF n y us).map (·.1) = (putND n d ns ds).1 ∧ RdsL G H (putND n d ns ds).2 ((putF n y us).map (·.2)) A' ∧ A'.Nodup ∧ ∀ a ∈ A', a ∈ A ∨ a ∈ B
  | [], ns, ds, A, h1, h2, nA, nB, ap => by
    subst h1
    obtain ⟨rfl, rfl⟩ : ds = [] ∧ A = [] := by
      have := rdsL_len h2
      cases ds with
      | nil => exact ⟨rfl, (rdsL_nil.mp h2).2⟩
      | cons _ _ => simp at this
    exact ⟨B ++ [], rfl, rdsL_cons.mpr ⟨y, [], B, [], rfl, rfl, hB, rdsL_nil.mpr ⟨rfl, rfl⟩⟩, by simpa using nB, fun a ha => .inr (by simpa using ha)⟩
  | (m, u) :: us, ns, ds, A, h1, h2, nA, nB, ap => by
    subst h1
    cases ds with
    | nil =>
      have := rdsL_len h2
      simp at this
    | cons e ds =>
      obtain ⟨x, r, A1, A2, hx, rfl, k1, k2⟩ := rdsL_cons.mp h2
      rw [List.map_cons, List.cons.injEq] at hx
      obtain ⟨rfl, rfl⟩ := hx
      rw [List.nodup_append] at nA
      obtain ⟨n1, n2, n3⟩ := nA
      by_cases z : m = n
      · have e1 : putF n y ((m, u) :: us) = (m, y) :: us := by show (if m = n then _ else _) = _; rw [if_pos z]
        have e2 : putND n d (((m, u) :: us).map (·.1)) (e :: ds) = (m :: us.map (·.1), d :: ds) := by show (if m = n then _ else _) = _; rw [if_pos z]
        rw [e1, e2]
        refine ⟨B ++ A2, rfl, rdsL_cons.mpr ⟨y, _, B, A2, rfl, rfl, hB, k2⟩, ?_, fun a ha => ?_⟩
        · rw [List.nodup_append]
          exact ⟨nB, n2, fun a ha b hb eab => ap b (List.mem_append_right _ hb) (eab ▸ ha)⟩
        · rcases List.mem_append.mp ha with ha | ha
          · exact .inr ha
          · exact .inl (List.mem_append_right _ ha)
      · have e1 : putF n y ((m, u) :: us) = (m, u) :: putF n y us := by show (if m = n then _ else _) = _; rw [if_neg z]
        have e2 : putND n d (((m, u) :: us).map (·.1)) (e :: ds) = (m :: (putND n d (us.map (·.1)) ds).1, e :: (putND n d (us.map (·.1)) ds).2) := by show (if m = n then _ else _) = _; rw [if_neg z]
        rw [e1, e2]
        obtain ⟨A', g1, g2, g3, g4⟩ := putF_rd (n := n) hB (us := us) rfl k2 n2 nB fun a ha => ap a (List.mem_append_right _ ha)
        refine ⟨A1 ++ A', by rw [List.map_cons, g1], rdsL_cons.mpr ⟨u, _, A1, A', rfl, rfl, k1, g2⟩, ?_, fun a ha => ?_⟩
        · rw [List.nodup_append]
          refine ⟨n1, g3, fun a ha b hb eab => ?_⟩
          subst eab
          rcases g4 a hb with w | w
          · exact n3 a ha a w rfl
          · exact ap a (List.mem_append_left _ ha) w
        · rcases List.mem_append.mp ha with ha | ha
          · exact .inl (List.mem_append_left _ ha)
          · rcases g4 a ha with w | w
            · exact .inl (List.mem_append_right _ w)
            · exact .inr w
abbrev rFldS (G : Gb) (c : Nat) (n : Str) : V → List V → Hp → VK → Prop := fun x vs H Q => ∃ y a dx fs, vs = [y] ∧ x = .ref a ∧ H a = some (.ins (G.cls c) dx fs) ∧ fs.length < 1000 ∧ Q .non (upd H a (.ins (G.cls c) dx (putF n y fs)))
theorem mut_fld {c : Nat} {n : Str} : MutOk G (rFldS G c n) (opFld c n) := fun H sd sv A ds vs B Q sd' res r1 r2 ndA ndB ap e ha q => by
  unfold opFld at e
  split at e
  · rename_i c' ns es d
    split at e
    · rename_i hc
      subst hc
      split at e
      · rename_i hl
        cases e
        obtain ⟨a, dx, us, A0, rfl, h1, h2, h3, rfl⟩ := rds_obj.mp r1
        obtain ⟨y, rfl, hy⟩ := rdsL1 r2
        rw [List.nodup_cons] at ndA
        obtain ⟨na, nd0⟩ := ndA
        have aB : a ∉ B := ap a List.mem_cons_self
        have c1 : Chg (fun q => q = a) H (upd H a (.ins (G.cls c') dx (putF n y us))) := Chg.put h1 rfl rfl
        obtain ⟨A', g1, g2, g3, g4⟩ := putF_rd (n := n) hy h2 h3 nd0 ndB fun z hz => ap z (List.mem_cons_of_mem _ hz)
        have na' : a ∉ A' := fun z => (g4 a z).elim na aB
        have len : us.length < 1000 := by rw [← h2, List.length_map] at hl; exact hl
        exact ⟨y, a, dx, us, rfl, rfl, h1, len, q .non _ (a :: A') (rds_obj.mpr ⟨a, dx, _, A', rfl, upd_same, g1, RdsL.chg c1 _ _ _ (fun b hb e => na' (e ▸ hb)) g2, rfl⟩) (rds_non.mpr ⟨rfl, rfl⟩) (List.nodup_cons.mpr ⟨na', g3⟩) (fun z hz => by
          rcases List.mem_cons.mp hz with rfl | hz
          · exact .inl List.mem_cons_self
          · exact (g4 z hz).imp (List.mem_cons_of_mem _) id) (c1.mono fun q o _ h => by rw [h]; exact List.mem_cons_self)⟩
      · cases e
    · cases e
  · cases e
end
end VL
set_option maxHeartbeats 4000000
namespace VL
open PySem PySem.Spec PyProof.Rows L2
variable [LamT]
def sSetF (i c : Nat) (n : Str) (k : Kind) (f : EF) (pf : PF) : SF := fun E => match f E with
  | some (d, E1) => (match pf E1 with
    | some (p, E2) => if hasP E2 i p then (if storable k d then (match E2[i]? with
        | some (some (m, dd)) => if m.w then (match getP p dd with
          | some sd => (match opFld c n sd [d] with
            | some (sd', _) => (match setP p dd sd' with
              | some d' => some (.nx (E2.set i (some (m, d'))))
              | none => none)
            | none => none)
          | none => none) else none
        | _ => none) else none) else none
    | none => none)
  | none => none
theorem sSetF_ap (i c : Nat) (n : Str) (k : Kind) (f : EF) (pf : PF) (E : Env) : sSetF i c n k f pf E = (match f E with
  | some (d, E1) => (match pf E1 with
    | some (p, E2) => if hasP E2 i p then (if storable k d then (match E2[i]? with
        | some (some (m, dd)) => if m.w then (match getP p dd with
          | some sd => (match opFld c n sd [d] with
            | some (sd', _) => (match setP p dd sd' with
              | some d' => some (.nx (E2.set i (some (m, d'))))
              | none => none)
            | none => none)
          | none => none) else none
        | _ => none) else none) else none
    | none => none)
  | none => none) := rfl
section
variable {G : Gb} {X : Cx}
theorem vs_fld {ro : Bool} {o e : Expr} {n : Str} {M : List Nat} {i c : Nat} {k : Kind} {f : EF} {pf : PF} {pos pos' : Pos} (hK : X.K = G.K) (cl : Cls G.K (G.cls c)) (na : NoAttr G.K (G.cls c) n) (he : VE G X e M k f) (ho : VP G X o [] i pf)
    (hs : swapsWith e (some (.Attribute o n pos')) pos.line X.env = pure false := by rfl) : VS G X ro (.Assign [.Attribute o n pos'] e pos) (sSetF i c n k f pf) :=
  PS.imp (ps_fld ho he hs) fun N σ H ⟨C, E, Fs, R, o, e, q⟩ => by
    unfold sSetF at e
    split at e
    · rename_i d E1 e1
      split at e
      · rename_i p E2 e2
        split at e
        · rename_i hh
          split at e
          · rename_i hst
            split at e
            · rename_i m dd e4
              split at e
              · rename_i hw
                split at e
                · rename_i sd e5
                  split at e
                  · rename_i sd' rr e6
                    split at e
                    · rename_i d' e7
                      cases e
                      refine ⟨C, E, Fs, R, d, E1, e1, fun vv H1 Fs1 B R1 s1 rv kv => ?_⟩
                      refine ⟨C, E1, Fs1, R1, p, E2, e2, hasP_of hh, fun H2 Fs2 m1 d1 v sd1 sv Pf A S R2 s2 em ev hf => ?_⟩
                      obtain ⟨rv2, kv2⟩ := kv.step R1 rv s2 (safe_nil k)
                      rw [e4] at em
                      cases em
                      have g1 := foc_det hf
                      rw [e5] at g1
                      cases g1
                      obtain ⟨eF, rd2⟩ := foc_rds hf
                      have nd2 := (R2.nd i m dd e4 hw).1
                      have ndA : A.Nodup := by
                        rw [eF] at nd2
                        exact ((List.sublist_append_left A S).trans (List.sublist_append_right Pf _)).nodup nd2
                      have inA : ∀ a ∈ A, a ∈ Fs2 i := fun a ha => by rw [eF]; simp [ha]
                      obtain ⟨ndB, loB⟩ := storL_ok (C := C) (show storL [k] [d] = true from hst) (G := G) (σ := σ) (H := H) (H1 := H2) (E := E2) (Fs := Fs2) (vs := [vv]) (FF := [B]) ⟨d, [], vv, [], B, [], rfl, rfl, rfl, rv2, kv2, fun j B' hB => by simp at hB, rfl, rfl, rfl⟩
                      simp only [List.flatten_cons, List.flatten_nil, List.append_nil] at ndB loB
                      have ofB : ∀ {a}, a ∈ B → a ∉ Fs2 i := fun {a} hb hm => (loB a hb).2 i ⟨m, dd, e4⟩ hm
                      have fin4 : ∀ (v3 : V) (H4 : Hp) (A' : List Addr), Rds G H4 sd' sv A' → Rds G H4 rr v3 [] → A'.Nodup → (∀ a ∈ A', a ∈ A ∨ a ∈ B) → Chg (fun a => a ∈ A) H2 H4 → N.nx σ H4 := fun v3 H4 A' rA' rR ndA' inA' c4 => by
                        have rd4 := foc_set hf nd2 c4 rA' e7
                        have c4' : Chg (fun a => a ∈ Fs2 i) H2 H4 := c4.mono fun q o _ h => inA q h
                        have ndN : (Pf ++ (A' ++ S)).Nodup := by
                          have ndF' := nd2
                          rw [eF, List.nodup_append] at ndF'
                          obtain ⟨n1, n2, n3⟩ := ndF'
                          rw [List.nodup_append] at n2
                          obtain ⟨_, n5, n6⟩ := n2
                          rw [List.nodup_append]
                          refine ⟨n1, ?_, fun a ha b hb eab => ?_⟩
                          · rw [List.nodup_append]
                            refine ⟨ndA', n5, fun a ha b hb eab => ?_⟩
                            subst eab
                            rcases inA' a ha with y | y
                            · exact n6 a y a hb rfl
                            · exact ofB y (by rw [eF]; simp [hb])
                          · subst eab
                            rcases List.mem_append.mp hb with z | z
                            · rcases inA' a z with y | y
                              · exact n3 a ha a (by simp [y]) rfl
                              · exact ofB y (by rw [eF]; simp [ha])
                            · exact n3 a ha a (by simp [z]) rfl
                        refine q σ H4 _ (R2.write e4 hw ev c4' rd4 ndN fun a ha => ?_)
                        rw [eF]
                        simp only [List.mem_append] at ha ⊢
                        have byB : a ∈ B → C.H0 a = none ∧ ¬ C.T a ∧ ∀ j, j ≠ i → Asg E2 j → a ∉ Fs2 j := fun y => ⟨(R.hn a (loB a y).1).1, (R.hn a (loB a y).1).2, fun j _ hj => (loB a y).2 j hj⟩
                        rcases ha with z | z | z
                        · exact .inl (.inl z)
                        · rcases inA' a z with y | y
                          · exact .inl (.inr (.inl y))
                          · exact .inr (byB y)
                        · exact .inl (.inr (.inr z))
                      obtain ⟨y, a, dx, fs, ez, ea, h8, hl, fin⟩ := mut_fld (c := c) (n := n) H2 sd sv A [d] [vv] B (fun _ H' => N.nx σ H') sd' rr rd2 (rdsL_cons.mpr ⟨vv, [], B, [], rfl, by simp, rv2, rdsL_nil.mpr ⟨rfl, rfl⟩⟩) ndA ndB (fun a ha hb => ofB hb (inA a ha)) e6 (by
                        unfold opFld at e6
                        split at e6
                        · split at e6
                          · split at e6
                            · cases e6
                              rfl
                            · cases e6
                          · cases e6
                        · cases e6) fin4
                      cases ez
                      exact ⟨a, G.cls c, dx, fs, ea, h8, by rw [hK]; exact cl, by rw [hK]; exact na, hl, fin⟩
                    · cases e
                  · cases e
                · cases e
              · cases e
            · cases e
          · cases e
        · cases e
      · cases e
    · cases e
end
end VL
set_option maxHeartbeats 4000000
namespace VL
open PySem PySem.Spec PyProof.Rows L2
open GxR (TabB Tabbed)
variable [LamT]
def eAt : List EF → Env → Option (List D × Env)
  | [], E => some ([], E)
  | f :: fs, E => match f E with
    | some (d, E1) => if d.atom then (match eAt fs E1 with
      | some (ds, E2) => some (d :: ds, E2)
      | none => none) else none
    | none => none
def tAt (G : Gb) (fs : List EF) : TA := fun σ H Q => ∃ C E Fs, Rel G C H σ E Fs ∧ ∃ ds E', eAt fs E = some (ds, E') ∧
  ∀ vs H' Fs', Rel G C H' σ E' Fs' → Stp [] H H' E E' Fs Fs' → RdsL G H' ds vs [] → Q vs H'
def tAPc (G : Gb) (i : Nat) (as : List EF) (pf : PF) (bs : List EF) (C : Ctx) (E : Env) (Fs : Nat → List Addr) : TA := fun σ H Q => ∃ ds1 E1 p E2 ds2 E3, eAt as E = some (ds1, E1) ∧ pf E1 = some (p, E2) ∧ hasP E2 i p = true ∧ eAt bs E2 = some (ds2, E3) ∧
  ∀ vs1 sv vs2 H' Fs' m d v sd P A S, Rel G C H' σ E3 Fs' → Stp [] H H' E E3 Fs Fs' → RdsL G H' ds1 vs1 [] → RdsL G H' ds2 vs2 [] → E3[i]? = some (some (m, d)) → σ[i]? = some (some v) → Foc G H' p d v (Fs' i) sd sv P A S → Q (vs1 ++ sv :: vs2) H'
def tAP (G : Gb) (i : Nat) (as : List EF) (pf : PF) (bs : List EF) : TA := fun σ H Q => ∃ C E Fs, Rel G C H σ E Fs ∧ tAPc G i as pf bs C E Fs σ H Q
section
variable {G : Gb} {X : Cx} {e : Expr} {es : List Expr} {k : Kind} {f : EF} {fs as bs : List EF} {pf : PF} {i : Nat}
theorem noM {E : Env} {Fs : Nat → List Addr} {q : Addr} : ¬ ∃ i ∈ ([] : List Nat), ∃ m d, E[i]? = some (some (m, d)) ∧ m.w = true ∧ q ∈ Fs i := fun ⟨j, hj, _⟩ => by cases hj
theorem pat_nil : PA X [] (tAt G []) := PA.imp pa_nil fun σ H Q ⟨C, E, Fs, R, ds, E', e, q⟩ => by
  cases e
  exact q [] H Fs R Stp.refl (rdsL_nil.mpr ⟨rfl, rfl⟩)
theorem pat_cons (he : VE G X e [] k f) (hr : PA X es (tAt G fs)) (hs : starEach (e :: es) X.env = (false, eval e X.env) :: starEach es X.env := by rfl) : PA X (e :: es) (tAt G (f :: fs)) :=
  PA.imp (pa_cons he hr hs) fun σ H Q ⟨C, E, Fs, R, ds, E', e, q⟩ => by
    unfold eAt at e
    split at e
    · rename_i d E1 e1
      split at e
      · rename_i ha
        split at e
        · rename_i ds2 E2 e2
          cases e
          refine ⟨C, E, Fs, R, d, E1, e1, fun v H1 Fs1 F R1 s1 r1 k1 => ?_⟩
          refine ⟨C, E1, Fs1, R1, ds2, E', e2, fun vs H2 Fs2 R2 s2 r2 => ?_⟩
          have hF := Rds.atom d v F ha r1
          subst hF
          exact q _ H2 Fs2 R2 (s1.trans s2) (rdsL_cons.mpr ⟨v, vs, [], [], rfl, rfl, Rds.chg s2.chg _ _ _ (fun a h => by cases h) r1, r2⟩)
        · cases e
      · cases e
    · cases e
theorem pap_nil (he : VP G X e [] i pf) (hr : PA X es (tAt G bs)) (hs : starEach (e :: es) X.env = (false, eval e X.env) :: starEach es X.env := by rfl) : PA X (e :: es) (tAP G i [] pf bs) :=
  PA.imp (pa_cons he hr hs) fun σ H Q ⟨C, E, Fs, R, ds1, E1, p, E2, ds2, E3, e0, e1, hh, e2, q⟩ => by
    cases e0
    refine ⟨C, E, Fs, R, p, E2, e1, hasP_of hh, fun H1 Fs1 m d v sd sv P A S R1 s1 em ev hf => ?_⟩
    refine ⟨C, E2, Fs1, R1, ds2, E3, e2, fun vs H2 Fs2 R2 s2 r2 => ?_⟩
    have hf2 := Foc.chg s2.chg (fun a _ h => noM h) hf
    have fs2 := s2.fs i (by simp)
    rw [← fs2] at hf2
    exact q [] sv vs H2 Fs2 m d v sd P A S R2 (s1.trans s2) (rdsL_nil.mpr ⟨rfl, rfl⟩) r2 (by rw [s2.env i (by simp)]; exact em) ev hf2
end
def eCallF (F : FD) (i : Nat) (as : List EF) (pf : PF) (bs : List EF) : EF := fun E => match eAt as E with
  | some (ds1, E1) => (match pf E1 with
    | some (p, E2) => if hasP E2 i p then (match eAt bs E2 with
      | some (ds2, E3) => (match E3[i]? with
        | some (some (m, d)) => if m.w then (match getP p d with
          | some sd => (match F (ds1 ++ sd :: ds2) with
            | some (r, [sd']) => (match setP p d sd' with
              | some d' => some (r, E3.set i (some (m, d')))
              | none => none)
            | _ => none)
          | none => none) else none
        | _ => none)
      | none => none) else none
    | none => none)
  | none => none
theorem rdsL_atC {G : Gb} {H : Hp} : ∀ {ds : List D} {vs : List V}, RdsL G H ds vs [] → ∀ (j : Nat) (d : D), ds[j]? = some d → ∃ v, vs[j]? = some v ∧ Rds G H d v []
  | [], _, _, j, d, e => by simp at e
  | d0 :: ds, _, h, j, d, e => by
    obtain ⟨x, r, A, B, rfl, hAB, h1, h2⟩ := rdsL_cons.mp h
    obtain ⟨rfl, rfl⟩ := List.append_eq_nil_iff.mp hAB.symm
    cases j with
    | zero =>
      simp at e
      subst e
      exact ⟨x, rfl, h1⟩
    | succ j => exact rdsL_atC h2 j d (by simpa using e)
section
variable {G : Gb} {X : Cx} {k : Nat} {f : Addr} {fd : FuncData} {ps : List Str} {ro : Bool} {F : FD} {x : Str} {p pos : Pos} {e : Expr} {es : List Expr} {as bs : List EF} {i : Nat} {pf : PF}
theorem eAt_len : ∀ {fs : List EF} {E E' : Env} {ds : List D}, eAt fs E = some (ds, E') → ds.length = fs.length
  | [], _, _, _, h => by cases h; rfl
  | f :: fs, E, E', ds, h => by
    unfold eAt at h
    split at h
    · split at h
      · split at h
        · rename_i e2
          cases h
          rw [List.length_cons, eAt_len e2, List.length_cons]
        · cases h
      · cases h
    · cases h
theorem callF_core {σ : L2.St} {H : Hp} {Q : VK} {E : XK} {C : Ctx} {E0 E' : Env} {Fs : Nat → List Addr} {d : D} (hn : as.length + 1 + bs.length = ps.length) (R : Rel G C H σ E0 Fs) (e : eCallF F i as pf bs E0 = some (d, E'))
    (q : ∀ v H' Fs' A, Rel G C H' σ E' Fs' → Stp [i] H H' E0 E' Fs Fs' → Rds G H' d v A → KOk σ H E' Fs' (kRet ro) d v A → Q v H') : tAPc G i as pf bs C E0 Fs σ H fun vs H1 => spV G [as.length] ro ps.length F vs H1 Q E := by
  unfold eCallF at e
  split at e
  · rename_i ds1 E1 e1
    split at e
    · rename_i p E2 e2
      split at e
      · rename_i hh
        split at e
        · rename_i ds2 E3 e7
          split at e
          · rename_i m dd e3
            split at e
            · rename_i hw
              split at e
              · rename_i sd e4
                split at e
                · rename_i r sd' eF
                  split at e
                  · rename_i d' e6
                    cases e
                    refine ⟨ds1, E1, p, E2, ds2, E3, e1, e2, hh, e7, fun vs1 sv vs2 H1 Fs1 m1 d1 v sd1 Pf A S R1 s1 r1 r2 em ev hf => ?_⟩
                    rw [e3] at em
                    cases em
                    obtain ⟨eFs, rd1⟩ := foc_rds hf
                    have g1 := foc_det hf
                    rw [e4] at g1
                    cases g1
                    have l1 := eAt_len e1
                    have l2 := eAt_len e7
                    have m1 := rdsL_len r1
                    have m2 := rdsL_len r2
                    have ndF := (R1.nd i m dd e3 hw).1
                    have ndA : A.Nodup := by
                      rw [eFs] at ndF
                      exact ((List.sublist_append_left A S).trans (List.sublist_append_right Pf _)).nodup ndF
                    have inA : ∀ a ∈ A, a ∈ Fs1 i := fun a ha => by rw [eFs]; simp [ha]
                    have tr1 : ∀ {i m d a}, E3[i]? = some (some (m, d)) → a ∈ Fs1 i → ∃ o, H1 a = some o := fun {i m d a} e ha => by
                      obtain ⟨v, _, r, _⟩ := R1.rd i m d e
                      obtain ⟨o, eo, _⟩ := Rds.trk d v _ r a ha
                      exact ⟨o, eo⟩
                    refine ⟨ds1 ++ sd :: ds2, fun j => if j = as.length then A else [], by simp; omega, ⟨by simp; omega, fun j dj ej => ?_, fun j hj hjl => ?_⟩, R1.tb, d, [sd'], eF, fun v3 H3 A3 FA' rA ndA3 nwA ao c3 => ?_⟩
                    · by_cases z : j < as.length
                      · rw [List.getElem?_append_left (by omega)] at ej
                        obtain ⟨v0, k1, k2⟩ := rdsL_atC r1 j dj ej
                        exact ⟨v0, by rw [List.getElem?_append_left (by omega)]; exact k1, by rw [if_neg (by omega)]; exact k2⟩
                      · by_cases z2 : j = as.length
                        · subst z2
                          rw [List.getElem?_append_right (by omega), show as.length - ds1.length = 0 by omega] at ej
                          cases ej
                          exact ⟨sv, by rw [List.getElem?_append_right (by omega), show as.length - vs1.length = 0 by omega]; rfl, by rw [if_pos rfl]; exact rd1⟩
                        · obtain ⟨j', rfl⟩ : ∃ j', j = as.length + 1 + j' := ⟨j - as.length - 1, by omega⟩
                          rw [List.getElem?_append_right (by omega), show as.length + 1 + j' - ds1.length = j' + 1 by omega, List.getElem?_cons_succ] at ej
                          obtain ⟨v0, k1, k2⟩ := rdsL_atC r2 j' dj ej
                          exact ⟨v0, by rw [List.getElem?_append_right (by omega), show as.length + 1 + j' - vs1.length = j' + 1 by omega, List.getElem?_cons_succ]; exact k1, by rw [if_neg (by omega)]; exact k2⟩
                    · rw [List.mem_singleton.mp hj]
                      rw [if_pos rfl]
                      exact ⟨ndA, fun i' hi' hl' a ha hb => by rw [if_neg (by first | exact hi' | exact fun z => hi' z)] at hb; cases hb⟩
                    · obtain ⟨d2, v2, g1, g2, g3, g4, g5, g6, _⟩ := ao.rd 0 as.length rfl
                      cases g1
                      rw [List.getElem?_append_right (by omega), show as.length - vs1.length = 0 by omega] at g2
                      cases g2
                      rw [if_pos rfl] at g5
                      have c3a : Chg (fun a => a ∈ A) H1 H3 := c3.mono fun q o _ ⟨j, hj, hq⟩ => by
                        have e9 : j = as.length := List.mem_singleton.mp hj
                        subst e9
                        have hq : q ∈ (if as.length = as.length then A else []) := hq
                        rw [if_pos rfl] at hq
                        exact hq
                      have rd3 := foc_set hf ndF c3a g3 e6
                      have c3' : Chg (fun a => a ∈ Fs1 i) H1 H3 := c3a.mono fun q o _ h => inA q h
                      have split_ : ∀ a ∈ Pf ++ (FA' as.length ++ S), a ∈ Fs1 i ∨ H1 a = none := fun a ha => by
                        rw [eFs]
                        simp only [List.mem_append] at ha ⊢
                        rcases ha with z | z | z
                        · exact .inl (.inl z)
                        · rcases g5 a z with y | y
                          · exact .inl (.inr (.inl y))
                          · exact .inr y
                        · exact .inl (.inr (.inr z))
                      have ofN : ∀ {a}, H1 a = none → a ∉ Fs1 i := fun {a} hn hm => by
                        obtain ⟨o, eo⟩ := tr1 e3 hm
                        rw [hn] at eo
                        cases eo
                      have ndN : (Pf ++ (FA' as.length ++ S)).Nodup := by
                        have ndF' := ndF
                        rw [eFs, List.nodup_append] at ndF'
                        obtain ⟨n1, n2, n3⟩ := ndF'
                        rw [List.nodup_append] at n2
                        obtain ⟨_, n5, n6⟩ := n2
                        rw [List.nodup_append]
                        refine ⟨n1, ?_, fun a ha b hb eab => ?_⟩
                        · rw [List.nodup_append]
                          refine ⟨g4, n5, fun a ha b hb eab => ?_⟩
                          subst eab
                          rcases g5 a ha with y | y
                          · exact n6 a y a hb rfl
                          · exact ofN y (by rw [eFs]; simp [hb])
                        · subst eab
                          rcases List.mem_append.mp hb with z | z
                          · rcases g5 a z with y | y
                            · exact n3 a ha a (by simp [y]) rfl
                            · exact ofN y (by rw [eFs]; simp [ha])
                          · exact n3 a ha a (by simp [z]) rfl
                      have R3 := R1.write e3 hw ev c3' rd3 ndN fun a ha => by
                        rcases split_ a ha with z | z
                        · exact .inl z
                        · have hn := R1.hn a z
                          exact .inr ⟨hn.1, hn.2, fun j _ ⟨mj, dj, ej⟩ hm => by
                            obtain ⟨o, eo⟩ := tr1 ej hm
                            rw [z] at eo
                            cases eo⟩
                      have s3 := Stp.write (d' := d') e3 hw c3' split_
                      have lo : ∀ a ∈ A3, Loose H (E3.set i (some (m, d'))) (FsSet Fs1 i (Pf ++ (FA' as.length ++ S))) a := fun a ha => ⟨s1.chg.back (nwA a ha), fun j ⟨mj, dj, ej⟩ hm => by
                        by_cases hji : j = i
                        · subst hji
                          rw [FsSet_self] at hm
                          simp only [List.mem_append] at hm
                          rcases hm with z | z | z
                          · exact ofN (nwA a ha) (by rw [eFs]; simp [z])
                          · exact g6 a ha z
                          · exact ofN (nwA a ha) (by rw [eFs]; simp [z])
                        · rw [List.getElem?_set_ne (Ne.symm hji)] at ej
                          rw [FsSet, if_neg hji] at hm
                          obtain ⟨o, eo⟩ := tr1 ej hm
                          rw [nwA a ha] at eo
                          cases eo⟩
                      refine q v3 H3 _ A3 R3 (s1.trans s3) rA ?_
                      cases ro with
                      | true => exact ⟨ndA3 rfl, fun a ha => .inr (lo a ha)⟩
                      | false => exact fun a ha => .inr (lo a ha)
                  · cases e
                · cases e
              · cases e
            · cases e
          · cases e
        · cases e
      · cases e
    · cases e
  · cases e
theorem callF_of {σ : L2.St} {H : Hp} {Q : VK} {E : XK} (hn : as.length + 1 + bs.length = ps.length) (h : tV G [i] (kRet ro) (eCallF F i as pf bs) σ H Q) : tAP G i as pf bs σ H fun vs H1 => spV G [as.length] ro ps.length F vs H1 Q E := by
  obtain ⟨C, E0, Fs, R, d, E', e, q⟩ := h
  exact ⟨C, E0, Fs, R, callF_core hn R e q⟩
theorem ve_callF (F0 : TA.FnG X.prog X.w X.K X.mg X.base CX0 k f fd ps (spV G [as.length] ro ps.length F)) (hg : X.A.guards = some []) (hr : Room k X.A) (hgl : Gl X x) (hm : X.mg x = some (.ref f)) (hkp : PySem.W.keepIn X.K (.ref f) = true)
    (hb : Binds X.K fd ps []) {E : XK} (hx : Passes CX0 X E) (ha : PA X (e :: es) (tAP G i as pf bs)) (hn : as.length + 1 + bs.length = ps.length := by rfl)
    (hdb : (x == ("__debug__" : Str)) = false := by decide) (he : starEach (e :: es) X.env = (false, eval e X.env) :: starEach es X.env := by rfl) (hpl : (backTo pos (starEach es X.env)).any (·.1) = false := by rfl) :
    VE G X (.Call (.Name x p) (e :: es) [] pos) [i] (kRet ro) (eCallF F i as pf bs) :=
  PE.imp (TA.pe_callG F0 hg hr hgl hm hkp hb .nil hx ha hdb he hpl) fun σ H Q h => by
    obtain ⟨C, E0, Fs, R, ds1, E1, p, E2, ds2, E3, e1, e2, e3, e4, q⟩ := callF_of (E := E) hn h
    exact ⟨C, E0, Fs, R, ds1, E1, p, E2, ds2, E3, e1, e2, e3, e4, fun vs1 sv vs2 H' Fs' m d v sd P A S a1 a2 a3 a4 a5 a6 a7 => by
      have := q vs1 sv vs2 H' Fs' m d v sd P A S a1 a2 a3 a4 a5 a6 a7
      dsimp only
      rw [List.append_nil]
      exact this⟩
theorem pe_methG {pl : Sem Bool} {o : Expr} {m : Str} {CA : Addr} {ta : TE} {t : TA} {sp : Sp} {apos : Pos} {ds : List Value} {dvs : List V} {E : XK} (he : PE X o ta) (c : Cls X.K CA) (hm : Meth X.K CA m f) (F : TA.FnG X.prog X.w X.K X.mg X.base CX0 k f fd ps sp) (hg : X.A.guards = some []) (hr : Room k X.A) (hb : Binds X.K fd ps ds) (hd : Vals dvs ds) (hx : Passes CX0 X E) (ha : PA X (e :: es) t)
    (hst : starEach (e :: es) X.env = (false, eval e X.env) :: starEach es X.env := by rfl) (hpl : (backTo pos (starEach es X.env)).any (·.1) = false := by rfl)
    (ht : eval (.Call (.Attribute o m apos) (e :: es) [] pos) X.env = (do
      let ov ← eval o X.env
      standAt apos.atName
      let (f, first) ← holding [ov] (getMethod ov m pl)
      callWith pos f first (backTo pos (starEach (e :: es) X.env)) (backToKw pos (keywordEach [] X.env))) := by rfl) :
    PE X (.Call (.Attribute o m apos) (e :: es) [] pos) (tMeth CA m sp dvs E ta t) := by
  refine ⟨fun pins s σ H Q I h => ?_⟩
  refine PySem.W.methodCall_KW (pl := pl) (thn (he.run pins s σ H _ I h) fun u s1 ⟨x, H1, I1, rx, a, dx, fs, ex, ea, l, q⟩ => ?_) ht
  subst ex
  obtain rfl : u = Value.ref a := rx
  refine getmeth_ok I1 ea c hm l ?_
  refine PySem.W.callWith_K (first := [.ref a]) (h₀ := X.base) I.ok.mod.kin hm.kp (thn (ha.run pos pins s1 σ H1 _ I1 q) fun us s2 ⟨vs, H2, I2, r, q2⟩ => ⟨I2.kIn, ?_⟩) hst hpl
  exact TA.run_fnG (us := .ref a :: us) (vs := .ref a :: vs) F hg hr hb hd hx I2 (.cons rfl r) q2
theorem pe_methG0 {pl : Sem Bool} {o : Expr} {m : Str} {CA : Addr} {ta : TE} {sp : Sp} {apos : Pos} {ds : List Value} {dvs : List V} {E : XK} (he : PE X o ta) (c : Cls X.K CA) (hm : Meth X.K CA m f) (F : TA.FnG X.prog X.w X.K X.mg X.base CX0 k f fd ps sp) (hg : X.A.guards = some []) (hr : Room k X.A) (hb : Binds X.K fd ps ds) (hd : Vals dvs ds) (hx : Passes CX0 X E)
    (ht : eval (.Call (.Attribute o m apos) [] [] pos) X.env = (do
      let ov ← eval o X.env
      standAt apos.atName
      let (f, first) ← holding [ov] (getMethod ov m pl)
      callWith pos f first (backTo pos (starEach [] X.env)) (backToKw pos (keywordEach [] X.env))) := by rfl) :
    PE X (.Call (.Attribute o m apos) [] [] pos) (tMeth CA m sp dvs E ta tNil) := by
  refine ⟨fun pins s σ H Q I h => ?_⟩
  refine PySem.W.methodCall_KW (pl := pl) (thn (he.run pins s σ H _ I h) fun u s1 ⟨x, H1, I1, rx, a, dx, fs, ex, ea, l, q⟩ => ?_) ht
  subst ex
  obtain rfl : u = Value.ref a := rx
  refine getmeth_ok I1 ea c hm l ?_
  exact PySem.W.callWith_K0 (first := [.ref a]) I1.kIn hm.kp (TA.run_fnG (us := [.ref a]) (vs := [.ref a]) F hg hr hb hd hx I1 (.cons rfl .nil) q)
theorem idxS_none {n : Str} : ∀ {us : List (Str × V)}, idxS n (us.map (·.1)) = none → us.lookup n = none
  | [], _ => rfl
  | (m, u) :: us, h => by
    have h : (if m = n then some 0 else (idxS n (us.map (·.1))).map (· + 1)) = none := h
    by_cases z : m = n
    · rw [if_pos z] at h; cases h
    · rw [if_neg z] at h
      rw [List.lookup_cons, show (n == m) = false from beq_eq_false_iff_ne.mpr (Ne.symm z)]
      exact idxS_none (by simpa using h)
def isObj (c : Nat) (m : Str) : Option D → Bool
  | some (.obj c' ns _) => decide (c' = c) && (idxS m ns).isNone
  | _ => false
def eMethF (F : FD) (i c : Nat) (m : Str) (pf : PF) (bs : List EF) : EF := fun E => match pf E with
  | some (p, E1) => (match E1[i]? with
    | some (some (_, d)) => if isObj c m (getP p d) then eCallF F i [] pf bs E else none
    | _ => none)
  | none => none
theorem meth_of {σ : L2.St} {H : Hp} {Q : VK} {E : XK} {c : Nat} {m : Str} (hn : 1 + bs.length = ps.length) (h : tV G [i] (kRet ro) (eMethF F i c m pf bs) σ H Q) :
    tMeth (G.cls c) m (spV G [0] ro ps.length F) [] E (tVP G [] i pf) (tAt G bs) σ H Q := by
  obtain ⟨C, E0, Fs, R, d, E', e, q⟩ := h
  unfold eMethF at e
  split at e
  · rename_i p E1 e1
    split at e
    · rename_i m1 d1 em1
      split at e
      · rename_i ho
        obtain ⟨ds1, E1', p', E2, ds2, E3, f1, f2, f3, f4, fin⟩ := callF_core (E := E) (as := []) (by simpa using hn) R e q
        cases f1
        rw [e1] at f2
        cases f2
        refine ⟨C, E0, Fs, R, p, E1, e1, hasP_of f3, fun H1 Fs1 m d v sd sv P A S R1 s1 em ev hf => ?_⟩
        rw [em1] at em
        cases em
        have es := foc_det hf
        rw [es] at ho
        obtain ⟨_, rd⟩ := foc_rds hf
        unfold isObj at ho
        split at ho
        · rename_i c' ns es' heq
          cases heq
          rw [Bool.and_eq_true, decide_eq_true_eq] at ho
          obtain ⟨rfl, hno⟩ := ho
          obtain ⟨a, dx, us, A', rfl, k1, k2, k3, _⟩ := rds_obj.mp rd
          subst k2
          refine ⟨a, dx, us, rfl, k1, idxS_none (Option.isNone_iff_eq_none.mp hno), C, E1, Fs1, R1, ds2, E3, f4, fun vs H2 Fs2 R2 s2 r2 => ?_⟩
          have hf2 := Foc.chg s2.chg (fun a _ h => noM h) hf
          have fs2 := s2.fs i (by simp)
          rw [← fs2] at hf2
          have := fin [] (.ref a) vs H2 Fs2 _ _ v _ P A S R2 (s1.trans s2) (rdsL_nil.mpr ⟨rfl, rfl⟩) r2 (by rw [s2.env i (by simp)]; exact em1) ev hf2
          dsimp only
          rw [List.append_nil]
          exact this
        · cases ho
      · cases e
    · cases e
  · cases e
theorem ve_meth {pl : Sem Bool} {o : Expr} {m : Str} {c : Nat} {apos : Pos} {E : XK} (hK : X.K = G.K) (cl : Cls G.K (G.cls c)) (hm : Meth G.K (G.cls c) m f) (F0 : TA.FnG X.prog X.w X.K X.mg X.base CX0 k f fd ps (spV G [0] ro ps.length F)) (hg : X.A.guards = some []) (hr : Room k X.A) (hb : Binds X.K fd ps []) (hx : Passes CX0 X E)
    (ho : VP G X o [] i pf) (ha : PA X (e :: es) (tAt G bs)) (hn : 1 + bs.length = ps.length := by rfl)
    (hst : starEach (e :: es) X.env = (false, eval e X.env) :: starEach es X.env := by rfl) (hpl : (backTo pos (starEach es X.env)).any (·.1) = false := by rfl)
    (ht : eval (.Call (.Attribute o m apos) (e :: es) [] pos) X.env = (do
      let ov ← eval o X.env
      standAt apos.atName
      let (f, first) ← holding [ov] (getMethod ov m pl)
      callWith pos f first (backTo pos (starEach (e :: es) X.env)) (backToKw pos (keywordEach [] X.env))) := by rfl) :
    VE G X (.Call (.Attribute o m apos) (e :: es) [] pos) [i] (kRet ro) (eMethF F i c m pf bs) :=
  PE.imp (pe_methG (pl := pl) ho (hK ▸ cl) (hK ▸ hm) F0 hg hr hb .nil hx ha hst hpl ht) fun σ H Q h => meth_of (E := E) hn h
theorem ve_meth0 {pl : Sem Bool} {o : Expr} {m : Str} {c : Nat} {apos : Pos} {E : XK} (hK : X.K = G.K) (cl : Cls G.K (G.cls c)) (hm : Meth G.K (G.cls c) m f) (F0 : TA.FnG X.prog X.w X.K X.mg X.base CX0 k f fd ps (spV G [0] ro ps.length F)) (hg : X.A.guards = some []) (hr : Room k X.A) (hb : Binds X.K fd ps []) (hx : Passes CX0 X E)
    (ho : VP G X o [] i pf) (hn : 1 = ps.length := by rfl)
    (ht : eval (.Call (.Attribute o m apos) [] [] pos) X.env = (do
      let ov ← eval o X.env
      standAt apos.atName
      let (f, first) ← holding [ov] (getMethod ov m pl)
      callWith pos f first (backTo pos (starEach [] X.env)) (backToKw pos (keywordEach [] X.env))) := by rfl) :
    VE G X (.Call (.Attribute o m apos) [] [] pos) [i] (kRet ro) (eMethF F i c m pf []) :=
  PE.imp (pe_methG0 (pl := pl) ho (hK ▸ cl) (hK ▸ hm) F0 hg hr hb .nil hx ht) fun σ H Q h => by
    obtain ⟨C, E0, Fs, R, p, E1, e1, e2, q⟩ := meth_of (E := E) (bs := []) (by simpa using hn) h
    refine ⟨C, E0, Fs, R, p, E1, e1, e2, fun H1 Fs1 m d v sd sv P A S a1 a2 a3 a4 a5 => ?_⟩
    obtain ⟨a, dx, fs, rfl, k1, k2, C2, E2, Fs2, R2, ds2, E3, k3, fin⟩ := q H1 Fs1 m d v sd sv P A S a1 a2 a3 a4 a5
    cases k3
    exact ⟨a, dx, fs, rfl, k1, k2, fin [] H1 Fs2 R2 Stp.refl (rdsL_nil.mpr ⟨rfl, rfl⟩)⟩
end
end VL
set_option maxHeartbeats 4000000
namespace VL
open PySem PySem.Spec PyProof.Rows L2
open GxR (TabB Tabbed)
variable [LamT]
section
variable {G : Gb} {X : Cx} {k c : Nat} {f CA : Addr} {fd : FuncData} {ps : List Str} {ro : Bool} {F : FD} {x : Str} {p pos : Pos} {e : Expr} {es : List Expr} {M : List Nat} {ks : List Kind} {l : LF} {ds : List Value} {dvs : List V} {E : XK} {sp : Sp} {t : TA}
theorem run_makeG {pins : List (Addr × Obj)} {σ : L2.St} {H : Hp} {s : Shared} {Q : VK} {us : List Value} {vs : List V} (M : Mk X.K CA f) (F : TA.FnG X.prog X.w X.K X.mg X.base CX0 k f fd ps sp) (hg : X.A.guards = some []) (hr : Room (k + 1) X.A) (hb : Binds X.K fd ps ds) (hd : Vals dvs ds)
    (hx : Passes CX0 X E) (I : Inv X pins σ H s) (r : Vals vs us)
    (h : ∀ x dx, H x = none → H dx = none → dx ≠ x → sp (.ref x :: (vs ++ dvs)) (upd (upd H dx (.own x)) x (.ins CA dx [])) (fun v H2 => v = .non ∧ Q (.ref x) H2) E) :
    wpAny (model X.prog X.w) X.A (call (.ref CA) us) (EP X pins σ Q) X.xe s := by
  have hq := h (s.heap.objs.size + 1) s.heap.objs.size (I.hok.fresh (Nat.le_succ _)) (I.hok.fresh (Nat.le_refl _)) (Nat.ne_of_lt (Nat.lt_succ_self _))
  have I2 := Inv.made (C := CA) I
  have r2 : Vals (V.ref (s.heap.objs.size + 1) :: (vs ++ dvs)) (Value.ref (s.heap.objs.size + 1) :: (us ++ ds)) := .cons rfl (r.append hd)
  have hl : (Value.ref (s.heap.objs.size + 1) :: us ++ ds).length = ps.length := by
    have e := r2.length
    rw [F.len _ _ _ _ hq] at e
    exact e.symm
  refine wpAny_call (make_map (f := f) I.kIn M.makes M.init (beq_iff_eq.mp M.fn) (codeAny_mono (F.run _ X.stack _ _ ⟨Value.ref (s.heap.objs.size + 1) :: us, []⟩ _ (V.ref (s.heap.objs.size + 1) :: (vs ++ dvs)) _ E hg (hr.make CA us [])
    (I2.env0.make CA us []) (hb _ (Value.ref (s.heap.objs.size + 1) :: us) I2.kIn hl) r2 hq) fun r s' hq' => ?_))
  cases r with
  | error e => exact hx pins σ _ _ e s' I2 hq'
  | ok fl =>
    cases fl with
    | ret u =>
      obtain ⟨v, H', I3, rv, ev, q3⟩ := I2.after hq'
      subst ev
      exact ⟨rv, ⟨V.ref (s.heap.objs.size + 1), H', I3, rfl, q3⟩⟩
    | next => exact False.elim hq'
    | brk => exact False.elim hq'
    | cont => exact False.elim hq'
theorem pe_makeG (M : Mk X.K CA f) (F : TA.FnG X.prog X.w X.K X.mg X.base CX0 k f fd ps sp) (hg : X.A.guards = some []) (hr : Room (k + 1) X.A) (hgl : Gl X x) (hm : X.mg x = some (.ref CA)) (hb : Binds X.K fd ps ds) (hd : Vals dvs ds) (hx : Passes CX0 X E)
    (ha : PA X (e :: es) t) (hdb : (x == ("__debug__" : Str)) = false := by decide) (he : starEach (e :: es) X.env = (false, eval e X.env) :: starEach es X.env := by rfl) (hpl : (backTo pos (starEach es X.env)).any (·.1) = false := by rfl) :
    PE X (.Call (.Name x p) (e :: es) [] pos) (tMake CA sp dvs E t) := by
  refine ⟨fun pins s σ H Q I h => ?_⟩
  refine wpAny_Call_Name_kw (ld_glob I hgl hm ?_ hdb)
  refine PySem.W.callWith_K (h₀ := X.base) I.ok.mod.kin M.kp (thn (ha.run pos pins s σ H _ I h) fun us s1 ⟨vs, H1, I1, r, q⟩ => ⟨I1.kIn, ?_⟩) he hpl
  exact run_makeG M F hg hr hb hd hx I1 r q
def pMake (n : Nat) (F : FD) (c : Nat) : List D → Option D := fun ds => if ds.length + 1 = n then (match F (.obj c [] [] :: ds) with
  | some (.non, [d']) => some d'
  | _ => none) else none
theorem rdsL_parts {H : Hp} : ∀ {ds : List D} {vs : List V} {F0 : List Addr}, RdsL G H ds vs F0 → ∃ FF : Nat → List Addr, (∀ j d, ds[j]? = some d → ∃ v, vs[j]? = some v ∧ Rds G H d v (FF j)) ∧ ∀ j, ∀ a ∈ FF j, a ∈ F0
  | [], _, _, _ => ⟨fun _ => [], fun j d e => by simp at e, fun j a h => by cases h⟩
  | d0 :: ds, _, _, h => by
    obtain ⟨x, r, A, B, rfl, rfl, h1, h2⟩ := rdsL_cons.mp h
    obtain ⟨FF, g1, g2⟩ := rdsL_parts h2
    refine ⟨fun j => match j with
      | 0 => A
      | j + 1 => FF j, fun j d e => ?_, fun j a ha => ?_⟩
    · cases j with
      | zero =>
        simp at e
        subst e
        exact ⟨x, rfl, h1⟩
      | succ j => exact g1 j d (by simpa using e)
    · cases j with
      | zero => exact List.mem_append_left _ ha
      | succ j => exact List.mem_append_right _ (g2 j a ha)
abbrev rMake (G : Gb) (ro : Bool) (n : Nat) (F : FD) (c : Nat) (E : XK) : List V → Hp → VK → Prop := fun vs H Q => ∀ x dx, H x = none → H dx = none → dx ≠ x → spV G [0] ro n F (.ref x :: vs) (upd (upd H dx (.own x)) x (.ins (G.cls c) dx [])) (fun v H2 => v = .non ∧ Q (.ref x) H2) E
theorem prim_make {n : Nat} : PrimF G (rMake G ro n F c E) (pMake n F c) := fun H vs ds F0 Q d tb r e q x dx nx ndx hne => by
  unfold pMake at e
  split at e
  · rename_i hlen
    split at e
    · rename_i d' eF
      have hd : d' = d := Option.some.inj e
      subst hd
      have c1 : Chg No H (upd H dx (.own x)) := Chg.new ndx
      have nx1 : upd H dx (.own x) x = none := by rw [upd_ne hne.symm]; exact nx
      have c2 : Chg No (upd H dx (.own x)) (upd (upd H dx (.own x)) x (.ins (G.cls c) dx [])) := Chg.new nx1
      have c12 : Chg No H (upd (upd H dx (.own x)) x (.ins (G.cls c) dx [])) := (c1.trans c2).mono fun q o _ h => h.elim id id
      have r' := RdsL.chg c12 _ _ _ (fun a _ h => h) r
      have hv := rdsL_len r
      obtain ⟨FF, g1, g2⟩ := rdsL_parts r'
      have trF : ∀ a ∈ F0, ∃ o, H a = some o := fun a ha => by
        obtain ⟨o, eo, _⟩ := RdsL.trk ds vs F0 r a ha
        exact ⟨o, eo⟩
      refine ⟨.obj c [] [] :: ds, fun j => match j with
        | 0 => [x]
        | j + 1 => FF j, by rw [List.length_cons, hv]; exact hlen, ⟨by rw [List.length_cons, List.length_cons, hv], fun j dj ej => ?_, fun j hj hjl => ?_⟩, fun T hT => c12.tab (tb T hT), .non, [d'], eF, fun v H3 A FA' rA ndA nwA ao c3 => ?_⟩
      · cases j with
        | zero =>
          cases ej
          exact ⟨.ref x, rfl, rds_obj.mpr ⟨x, dx, [], [], rfl, upd_same, rfl, rdsL_nil.mpr ⟨rfl, rfl⟩, rfl⟩⟩
        | succ j => exact g1 j dj (by simpa using ej)
      · have ej : j = 0 := List.mem_singleton.mp hj
        subst ej
        refine ⟨by simp, fun i hi hil a ha hb => ?_⟩
        cases i with
        | zero => exact hi rfl
        | succ i =>
          obtain ⟨o, eo⟩ := trF a (g2 i a hb)
          have ha : a ∈ [x] := ha
          rw [List.mem_singleton.mp ha, nx] at eo
          cases eo
      · obtain ⟨d2, v2, k1, k2, k3, k4, k5, k6, _⟩ := ao.rd 0 0 rfl
        cases k1
        cases k2
        have hv0 := (rds_non.mp rA).1
        refine ⟨hv0, q (.ref x) H3 (FA' 0) k3 k4 (fun a ha => ?_) ?_⟩
        · rcases k5 a ha with z | z
          · have z : a ∈ [x] := z
            rw [List.mem_singleton.mp z]
            exact nx
          · exact c12.back z
        · refine (c12.trans c3).mono fun q o eo h => ?_
          rcases h with h | ⟨j, hj, hq⟩
          · exact h
          · have ej : j = 0 := List.mem_singleton.mp hj
            subst ej
            have hq : q ∈ [x] := hq
            rw [List.mem_singleton.mp hq, nx] at eo
            cases eo
    · cases e
  · cases e
theorem ve_make {n : Nat} (M0 : Mk X.K (G.cls c) f) (F0 : TA.FnG X.prog X.w X.K X.mg X.base CX0 k f fd ps (spV G [0] ro ps.length F)) (hg : X.A.guards = some []) (hr : Room (k + 1) X.A) (hgl : Gl X x) (hm : X.mg x = some (.ref (G.cls c))) (hb : Binds X.K fd ps []) (hx : Passes CX0 X E) (ha : VL G X (e :: es) M ks l) (hn : ps.length = n := by rfl)
    (hdb : (x == ("__debug__" : Str)) = false := by decide) (he : starEach (e :: es) X.env = (false, eval e X.env) :: starEach es X.env := by rfl) (hpl : (backTo pos (starEach es X.env)).any (·.1) = false := by rfl) :
    VE G X (.Call (.Name x p) (e :: es) [] pos) M .own (ePrim (pMake n F c) l) :=
  PE.imp (pe_makeG M0 F0 hg hr hgl hm hb .nil hx ha hdb he hpl) fun σ H Q h => by
    subst hn
    have h2 := prim_own (ks := ks) (r := rMake G ro ps.length F c E) prim_make h
    obtain ⟨C, E0, Fs, R, ds, E1, e1, q⟩ := h2
    refine ⟨C, E0, Fs, R, ds, E1, e1, fun vs H' Fs' FF a1 a2 a3 => ?_⟩
    have := q vs H' Fs' FF a1 a2 a3
    intro x dx nx ndx hne
    rw [List.append_nil]
    exact this x dx nx ndx hne
end
end VL
set_option maxHeartbeats 4000000
namespace VL
open PySem PySem.Spec PyProof.Rows L2
open GxR (TabB Tabbed)
variable [LamT]
end VL
set_option maxHeartbeats 4000000
namespace VL
open PySem PySem.Spec PyProof.Rows L2
open GxR (TabB Tabbed)
variable [LamT]
def eMethR (F : FD) (c : Nat) (m : Str) (fo : EF) (bs : List EF) : EF := fun E => match fo E with
  | some (d, E1) => if isObj c m (some d) then (match eAt bs E1 with
    | some (ds2, E2) => (match F (d :: ds2) with
      | some (r, []) => some (r, E2)
      | _ => none)
    | none => none) else none
  | none => none
section
variable {G : Gb} {X : Cx} {k : Nat} {f : Addr} {fd : FuncData} {ps : List Str} {ro : Bool} {F : FD} {pos : Pos} {e : Expr} {es : List Expr} {bs : List EF} {fo : EF} {kx : Kind}
theorem methR_of {σ : L2.St} {H : Hp} {Q : VK} {E : XK} {c : Nat} {m : Str} (hn : 1 + bs.length = ps.length) (h : tV G [] (kRet ro) (eMethR F c m fo bs) σ H Q) :
    tMeth (G.cls c) m (spV G [] ro ps.length F) [] E (tV G [] kx fo) (tAt G bs) σ H Q := by
  obtain ⟨C, E0, Fs, R, d, E', e, q⟩ := h
  unfold eMethR at e
  split at e
  · rename_i d0 E1 e1
    split at e
    · rename_i ho
      split at e
      · rename_i ds2 E2 e2
        split at e
        · rename_i r eF
          cases e
          refine ⟨C, E0, Fs, R, d0, E1, e1, fun v H1 Fs1 F0 R1 s1 rd _ => ?_⟩
          unfold isObj at ho
          split at ho
          · rename_i c' ns es' heq
            cases heq
            rw [Bool.and_eq_true, decide_eq_true_eq] at ho
            obtain ⟨rfl, hno⟩ := ho
            obtain ⟨a, dx, us, A', rfl, k1, k2, k3, _⟩ := rds_obj.mp rd
            subst k2
            refine ⟨a, dx, us, rfl, k1, idxS_none (Option.isNone_iff_eq_none.mp hno), C, E1, Fs1, R1, ds2, _, e2, fun vs H2 Fs2 R2 s2 r2 => ?_⟩
            have l2 := eAt_len e2
            have m2 := rdsL_len r2
            have rd2 := Rds.chg s2.chg _ _ _ (fun a _ h => noM h) rd
            dsimp only
            rw [List.append_nil]
            refine ⟨_ :: ds2, fun j => if j = 0 then F0 else [], by simp; omega, ⟨by simp; omega, fun j dj ej => ?_, fun j hj => by cases hj⟩, R2.tb, d, [], eF, fun v3 H3 A3 FA' rA ndA nwA ao c3 => ?_⟩
            · cases j with
              | zero =>
                cases ej
                exact ⟨_, rfl, by rw [if_pos rfl]; exact rd2⟩
              | succ j =>
                obtain ⟨v0, g1, g2⟩ := rdsL_atC r2 j dj (by simpa using ej)
                exact ⟨v0, g1, by rw [if_neg (by omega)]; exact g2⟩
            · have c3' : Chg No H2 H3 := c3.mono fun q o _ h => by
                obtain ⟨j, hj, _⟩ := h
                cases hj
              have tr : ∀ {i m d a}, E'[i]? = some (some (m, d)) → a ∈ Fs2 i → ∃ o, H2 a = some o := fun {i m d a} e ha => by
                obtain ⟨v, _, r, _⟩ := R2.rd i m d e
                obtain ⟨o, eo, _⟩ := Rds.trk d v _ r a ha
                exact ⟨o, eo⟩
              have st := s1.trans s2
              have lo : ∀ a ∈ A3, Loose H E' Fs2 a := fun a ha => ⟨st.chg.back (nwA a ha), fun i ⟨mi, di, ei⟩ hm => by
                obtain ⟨o, eo⟩ := tr ei hm
                rw [nwA a ha] at eo
                cases eo⟩
              refine q v3 H3 Fs2 A3 (R2.chg c3') (st.trans (Stp.of c3')) rA ?_
              cases ro with
              | true => exact ⟨ndA rfl, fun a ha => .inr (lo a ha)⟩
              | false => exact fun a ha => .inr (lo a ha)
          · cases ho
        · cases e
      · cases e
    · cases e
  · cases e
theorem ve_methR {pl : Sem Bool} {o : Expr} {m : Str} {c : Nat} {apos : Pos} {E : XK} (hK : X.K = G.K) (cl : Cls G.K (G.cls c)) (hm : Meth G.K (G.cls c) m f) (F0 : TA.FnG X.prog X.w X.K X.mg X.base CX0 k f fd ps (spV G [] ro ps.length F)) (hg : X.A.guards = some []) (hr : Room k X.A) (hb : Binds X.K fd ps []) (hx : Passes CX0 X E)
    (ho : VE G X o [] kx fo) (ha : PA X (e :: es) (tAt G bs)) (hn : 1 + bs.length = ps.length := by rfl)
    (hst : starEach (e :: es) X.env = (false, eval e X.env) :: starEach es X.env := by rfl) (hpl : (backTo pos (starEach es X.env)).any (·.1) = false := by rfl)
    (ht : eval (.Call (.Attribute o m apos) (e :: es) [] pos) X.env = (do
      let ov ← eval o X.env
      standAt apos.atName
      let (f, first) ← holding [ov] (getMethod ov m pl)
      callWith pos f first (backTo pos (starEach (e :: es) X.env)) (backToKw pos (keywordEach [] X.env))) := by rfl) :
    VE G X (.Call (.Attribute o m apos) (e :: es) [] pos) [] (kRet ro) (eMethR F c m fo bs) :=
  PE.imp (pe_methG (pl := pl) ho (hK ▸ cl) (hK ▸ hm) F0 hg hr hb .nil hx ha hst hpl ht) fun σ H Q h => methR_of (E := E) hn h
theorem ve_methR0 {pl : Sem Bool} {o : Expr} {m : Str} {c : Nat} {apos : Pos} {E : XK} (hK : X.K = G.K) (cl : Cls G.K (G.cls c)) (hm : Meth G.K (G.cls c) m f) (F0 : TA.FnG X.prog X.w X.K X.mg X.base CX0 k f fd ps (spV G [] ro ps.length F)) (hg : X.A.guards = some []) (hr : Room k X.A) (hb : Binds X.K fd ps []) (hx : Passes CX0 X E)
    (ho : VE G X o [] kx fo) (hn : 1 = ps.length := by rfl)
    (ht : eval (.Call (.Attribute o m apos) [] [] pos) X.env = (do
      let ov ← eval o X.env
      standAt apos.atName
      let (f, first) ← holding [ov] (getMethod ov m pl)
      callWith pos f first (backTo pos (starEach [] X.env)) (backToKw pos (keywordEach [] X.env))) := by rfl) :
    VE G X (.Call (.Attribute o m apos) [] [] pos) [] (kRet ro) (eMethR F c m fo []) :=
  PE.imp (pe_methG0 (pl := pl) ho (hK ▸ cl) (hK ▸ hm) F0 hg hr hb .nil hx ht) fun σ H Q h => by
    obtain ⟨C, E0, Fs, R, d, E1, e1, q⟩ := methR_of (E := E) (kx := kx) (bs := []) (by simpa using hn) h
    refine ⟨C, E0, Fs, R, d, E1, e1, fun v H1 Fs1 F0 R1 s1 rd k1 => ?_⟩
    obtain ⟨a, dx, fs, rfl, k1, k2, C2, E2, Fs2, R2, ds2, E3, k3, fin⟩ := q v H1 Fs1 F0 R1 s1 rd k1
    cases k3
    exact ⟨a, dx, fs, rfl, k1, k2, fin [] H1 Fs2 R2 Stp.refl (rdsL_nil.mpr ⟨rfl, rfl⟩)⟩
end
end VL
set_option maxHeartbeats 4000000
namespace VL
open PySem PySem.Spec PyProof.Rows L2
open GxR (TabB Tabbed)
variable [LamT]
end VL
set_option maxHeartbeats 4000000
namespace VL
noncomputable section
open PySem PySem.Spec PyProof.Rows L2
open GxR (TabB Tabbed)
variable [LamT]
def kA (ks : List Kind) (RR : List Nat) : List Nat := (RR.map fun r => ((ks[r]?).getD .own).S).flatten
end
end VL
set_option maxHeartbeats 4000000
namespace VL
noncomputable section
open PySem PySem.Spec PyProof.Rows L2
open GxR (TabB Tabbed)
variable [LamT]
theorem depth_ints : ∀ xs : List Int, PyData.depthAll (xs.map .int) ≤ 1
  | [] => by simp [PyData.depthAll]
  | x :: xs => by
    have := depth_ints xs
    simp [PyData.depthAll, PyData.depth]
    omega
end
end VL
set_option maxHeartbeats 4000000
namespace VL
noncomputable section
open PySem PySem.Spec PyProof.Rows L2
open GxR (TabB Tabbed)
variable [LamT]
end
end VL
set_option maxHeartbeats 4000000
namespace VL
noncomputable section
open PySem PySem.Spec PyProof.Rows L2
open GxR (TabB Tabbed)
variable [LamT]
section
variable {G : Gb} {X : Cx}
variable {k : Nat} {f : Addr} {fd : FuncData} {ps : List Str} {ro : Bool} {F : FD} {x : Str} {p pos pos1 pos2 pos3 : Pos} {en en2 e1 e2 : Expr} {i a b : Nat}
end
end
end VL
set_option maxHeartbeats 4000000
namespace VL
noncomputable section
open PySem PySem.Spec PyProof.Rows L2
open GxR (TabB Tabbed)
variable [LamT]
end
end VL
namespace VL
open PySem PySem.Spec PyProof.Rows L2
open GxR (TabB Tabbed)
variable [LamT]
noncomputable section
end
end VL
set_option maxHeartbeats 4000000
namespace VL
open PySem PySem.Spec PyProof.Rows L2
open GxR (TabB Tabbed)
variable [LamT]
noncomputable section
end
end VL
set_option maxHeartbeats 4000000
namespace VL
noncomputable section
open PySem PySem.Spec PyProof.Rows L2
open GxR (TabB Tabbed)
variable [LamT]
section
variable {G : Gb} {X : Cx} {σ : L2.St} {H : Hp} {Q : VK}
variable {scope : Scope} {own : List (Str × Nat)} {pos q p1 p2 p3 p4 : Pos} {x y : Str} {c1 : Nat}
end
end
end VL
set_option maxHeartbeats 4000000
namespace VL
noncomputable section
open PySem PySem.Spec PyProof.Rows L2
open GxR (TabB Tabbed)
variable [LamT]
end
end VL
set_option maxHeartbeats 4000000
namespace TA
open PySem PySem.Spec PyProof.Rows L2 RZ
def ItB (b : Bool) (h : Heap) (it l : Addr) (i : Nat) : Prop := if b then h.IsTupleIter it l i else h.IsListIter it l i
theorem ItB.ex {b : Bool} {h : Heap} {it l : Addr} {i : Nat} (x : ItB b h it l i) : ∃ o, h.get? it = some o ∧ ∃ vs, o.data = .fields vs := by
  cases b <;> (obtain ⟨o, e, _, d⟩ := x; exact ⟨o, e, _, d⟩)
theorem ItB.at {b : Bool} {h h' : Heap} {it l : Addr} {i : Nat} (x : ItB b h it l i) (k : ∀ o, h.get? it = some o → h'.get? it = some o) : ItB b h' it l i := by
  cases b <;> (obtain ⟨o, e, r⟩ := x; exact ⟨o, k o e, r⟩)
end TA
set_option maxHeartbeats 4000000
namespace VL
noncomputable section
open PySem PySem.Spec PyProof.Rows L2
open GxR (TabB Tabbed)
variable [LamT]
section
variable {G : Gb} {X : Cx} {tg e e2 e3 : Expr} {M M' M2 : List Nat} {k k' k2 : Kind} {f g h : EF}
theorem PI.ex {α : Type} {t : α → TI} (h : ∀ b, PI X tg e (t b)) : PI X tg e (fun σ H R => ∃ b, t b σ H R) := ⟨fun pins s σ H R I ⟨b, q⟩ => (h b).run pins s σ H R I q⟩
end
end
end VL
set_option maxHeartbeats 4000000
namespace VL
noncomputable section
open PySem PySem.Spec PyProof.Rows L2
open GxR (TabB Tabbed)
variable [LamT]
inductive RQ where
  | v (i : Nat) | p (i a : Nat)
def RQ.rd (E : Env) : RQ → Option D
  | .v i => match E[i]? with
    | some (some (.own, d)) => some d
    | _ => none
  | .p i a => match E[i]? with
    | some (some (.own, .tup ds)) => ds[a]?
    | _ => none
def RQ.apart : RQ → RQ → Bool
  | .p i a, .p j b => i != j || a != b
  | .p i _, .v j => i != j
  | .v i, .p j _ => i != j
  | .v i, .v j => i != j
end
end VL
set_option maxHeartbeats 4000000
local macro_rules | `(tactic| simp! [$ts,*]) => `(tactic| simp [VL.sl_eq, VL.callD_ap, VL.startE, VL.sSeq_ap, VL.sIf_ap, VL.sSet_ap, VL.sRet_ap, VL.sRetN_ap, VL.sRetT_ap, VL.retTs, VL.sDrop_ap, VL.sAsg_ap, VL.sAug_ap, VL.sCat_ap, VL.sMv_ap, VL.sAugIt_ap, VL.eChain_ap, VL.sNever, VL.sPar2_ap, VL.sFor_ap, VL.sNext_ap, VL.sSetIt_ap, VL.sPairSet_ap, VL.gSetIt_ap, VL.eVar_ap, VL.eC_ap, VL.ePrim_ap, VL.lCons_ap, VL.lNil_ap, VL.lRef_ap, VL.eOwn_ap, VL.eCall_ap, VL.eCallP_ap, VL.ioW, VL.setIO, VL.setD, VL.ioOut, VL.ioGet, VL.toT_ap, VL.toTr_ap, VL.tfAnd_ap, VL.tfOr_ap, VL.tfNot_ap, VL.tYesF_ap, VL.eIf_ap, VL.eAnd_ap, VL.eOr_ap, VL.eNot_ap, VL.eMut_ap, VL.pName_ap, VL.pSub1_ap, VL.hasP, VL.hasT, VL.tyD, VL.storL, VL.storable, VL.getP, VL.setP, VL.opApp, VL.opIns, VL.opPop, VL.opClear, VL.opExt, VL.opSet, VL.putE, VL.putV, VL.freeze, VL.frz1, VL.newAll, VL.allNew, VL.Mode.frz, VL.Mode.w, VL.Mode.new, VL.retOk, VL.D.atom, VL.D.atomL, VL.D.flat, VL.D.tru, VL.D.node, VL.D.items, VL.D.isNon, VL.gSet_ap, VL.gsNil, VL.gsCons, VL.gTupE, VL.gSeqE, VL.bindN, VL.putP, VL.iSeq_ap, VL.iRg_ap, VL.iEnm_ap, VL.iZip2_ap, VL.rg1_ap, VL.rg2_ap, VL.eListRg_ap, VL.oNone_ap, VL.oSome_ap, VL.eSlice_ap, VL.pSlice, VL.pTup_ap, VL.pLst_ap, VL.pI2, VL.pNeg, VL.pAdd, VL.pAddT, VL.pMul, VL.pEq_int, VL.pEq_bl, VL.pEq_str, VL.pEq_nm, VL.pEq_nil, VL.pIsN, VL.pIx, VL.pLen, VL.pAbs, VL.pMin, VL.pMax, VL.pDivmod, VL.pInt, VL.pList, VL.pTuple, VL.pSumA, VL.pAll, VL.pAny, VL.pIn_lst, VL.pIn_tup, VL.pIsi, VL.pIsi2, VL.D.tyn, VL.isiB, VL.flatD, VL.keyD, VL.Kind.S, VL.wipeE, VL.eDict0_ap, VL.eDict1_ap, VL.pGet, VL.nm, VL.atomL_app, VL.atI_0, VL.atI_1, VL.atI_2, VL.atI_3, VL.eCallT_ap, VL.pOdd1, VL.pMinD, VL.pMaxD, VL.opUpd, VL.eRow_ap, VL.sExtF_ap, VL.sRetS_ap, VL.D.one, VL.pMulT, VL.eIdx_ap, $ts,*])
namespace VL
noncomputable section
open PySem PySem.Spec PyProof.Rows L2
open GxR (TabB Tabbed)
variable [LamT]
section
variable {G : Gb}
theorem Stp.at {i : Nat} {H H' : Hp} {E E' : Env} {Fs Fs' : Nat → List Addr} (s : Stp [i] H H' E E' Fs Fs') : Chg (fun q => q ∈ Fs i) H H' := s.chg.mono fun _ _ _ ⟨j, hj, _, _, _, _, h⟩ => by
  rw [List.mem_singleton.mp hj] at h
  exact h
theorem Chg.drop {H H' : Hp} {r : Addr} (c : Chg (fun q => q = r) H H') (e : H' r = H r) : Chg No H H' := fun q o eq => by
  rcases c q o eq with h | h | ⟨rfl, _⟩
  · exact .inl h
  · exact .inr (.inl h)
  · exact .inl (by rw [e]; exact eq)
end
end
end VL
set_option maxHeartbeats 4000000
namespace VL
noncomputable section
open PySem PySem.Spec PyProof.Rows L2
open GxR (TabB Tabbed)
variable [LamT]
structure Mov (E E' : Env) (Fs Fs' : Nat → List Addr) (A : List Addr) : Prop where
  sl : ∀ i m d, E'[i]? = some (some (m, d)) → (∃ d', E[i]? = some (some (m, d'))) ∧ ∀ a ∈ Fs' i, a ∈ Fs i
  fr : ∀ a ∈ A, ∃ i m d, E[i]? = some (some (m, d)) ∧ m.w = true ∧ a ∈ Fs i
  ap : ∀ a ∈ A, ∀ i m d, E'[i]? = some (some (m, d)) → a ∉ Fs' i
  nd : A.Nodup
section
variable {G : Gb} {C : Ctx} {X : Cx} {H H' : Hp} {σ : L2.St} {E E1 E2 E' : Env} {Fs Fs1 Fs2 : Nat → List Addr} {A B : List Addr}
theorem Mov.refl : Mov E E Fs Fs [] := ⟨fun i m d e => ⟨⟨d, e⟩, fun a ha => ha⟩, fun a ha => (by cases ha), fun a ha => (by cases ha), List.nodup_nil⟩
theorem Mov.trans (a : Mov E E1 Fs Fs1 A) (b : Mov E1 E2 Fs1 Fs2 B) : Mov E E2 Fs Fs2 (A ++ B) where
  sl := fun i m d e => by
    obtain ⟨⟨d1, e1⟩, h1⟩ := b.sl i m d e
    obtain ⟨⟨d2, e2⟩, h2⟩ := a.sl i m d1 e1
    exact ⟨⟨d2, e2⟩, fun x hx => h2 x (h1 x hx)⟩
  fr := fun x hx => by
    rcases List.mem_append.mp hx with hx | hx
    · exact a.fr x hx
    · obtain ⟨i, m, d, e, hw, hm⟩ := b.fr x hx
      obtain ⟨⟨d1, e1⟩, h1⟩ := a.sl i m d e
      exact ⟨i, m, d1, e1, hw, h1 x hm⟩
  ap := fun x hx i m d e => by
    rcases List.mem_append.mp hx with hx | hx
    · obtain ⟨⟨d1, e1⟩, h1⟩ := b.sl i m d e
      exact fun hm => a.ap x hx i m d1 e1 (h1 x hm)
    · exact b.ap x hx i m d e
  nd := List.nodup_append.mpr ⟨a.nd, b.nd, fun x hx y hy e => by
    subst e
    obtain ⟨i, m, d, e, _, hm⟩ := b.fr x hy
    exact a.ap x hx i m d e hm⟩
variable {e b : Expr} {i : Nat} {g : EF} {k : Kind} {pos : Pos}
end
end
end VL
set_option maxHeartbeats 4000000
namespace TA
open PySem PySem.Spec PyProof.Rows L2
end TA
set_option maxHeartbeats 4000000
namespace VL
noncomputable section
open PySem PySem.Spec PyProof.Rows L2
open GxR (TabB Tabbed)
variable [LamT]
end
end VL
set_option maxHeartbeats 4000000
namespace VL
noncomputable section
open PySem PySem.Spec PyProof.Rows L2
open GxR (TabB Tabbed)
variable [LamT]
end
end VL
set_option maxHeartbeats 4000000
namespace VL
noncomputable section
open PySem PySem.Spec PyProof.Rows L2
open GxR (TabB Tabbed)
variable [LamT]
section
variable {G : Gb} {X : Cx} {σ : L2.St} {H : Hp} {Q : VK}
variable {scope : Scope} {own : List (Str × Nat)} {pos q p1 p2 p3 p4 : Pos} {x y : Str} {c1 : Nat}
end
end
end VL
set_option maxHeartbeats 4000000
namespace VL
noncomputable section
open PySem PySem.Spec PyProof.Rows L2
open GxR (TabB Tabbed)
variable [LamT]
section
variable {G : Gb} {C : Ctx} {X : Cx} {H H' : Hp} {σ : L2.St} {E E1 E2 E' : Env} {Fs Fs1 Fs2 : Nat → List Addr} {A B : List Addr}
theorem Mov.sub (M : Mov E E' Fs Fs1 A) (h : ∀ a ∈ B, a ∈ A) (nd : B.Nodup) : Mov E E' Fs Fs1 B := ⟨M.sl, fun a ha => M.fr a (h a ha), fun a ha => M.ap a (h a ha), nd⟩
variable {e e2 : Expr} {i : Nat} {pos p1 p2 : Pos} {j : Nat}
end
end
end VL
set_option maxHeartbeats 4000000
namespace VL
noncomputable section
open PySem PySem.Spec PyProof.Rows L2
open GxR (TabB Tabbed)
variable [LamT]
def putDk (l : List (Key × D)) (k : Key) (d : D) : List (Key × D) := if (l.any fun p => decide (p.1 = k)) = true then l.map (fun p => if p.1 = k then (p.1, d) else p) else l ++ [(k, d)]
section
variable {G : Gb} {X : Cx} {H : Hp}
def AL (G : Gb) (H : Hp) : List (Key × D) → List (Key × V) → Prop
  | [], [] => True
  | p :: l, q :: us => q.1 = p.1 ∧ Rds G H p.2 q.2 [] ∧ AL G H l us
  | _, _ => False
theorem AL.keys : ∀ {l : List (Key × D)} {us : List (Key × V)}, AL G H l us → us.map (·.1) = l.map (·.1)
  | [], [], _ => rfl
  | p :: l, q :: us, h => by rw [List.map_cons, List.map_cons, h.1, AL.keys h.2.2]
  | [], _ :: _, h => h.elim
  | _ :: _, [], h => h.elim
theorem AL.rds : ∀ {l : List (Key × D)} {us : List (Key × V)}, AL G H l us → RdsL G H (l.map (·.2)) (us.map (·.2)) []
  | [], [], _ => rdsL_nil.mpr ⟨rfl, rfl⟩
  | p :: l, q :: us, h => rdsL_cons.mpr ⟨q.2, us.map (·.2), [], [], rfl, rfl, h.2.1, AL.rds h.2.2⟩
  | [], _ :: _, h => h.elim
  | _ :: _, [], h => h.elim
theorem AL.any (k : Key) : ∀ {l : List (Key × D)} {us : List (Key × V)}, AL G H l us → (us.any fun kv => decide (kv.1 = k)) = (l.any fun p => decide (p.1 = k))
  | [], [], _ => rfl
  | p :: l, q :: us, h => by rw [List.any_cons, List.any_cons, h.1, AL.any k h.2.2]
  | [], _ :: _, h => h.elim
  | _ :: _, [], h => h.elim
theorem AL.map (k : Key) {d : D} {v : V} (r : Rds G H d v []) : ∀ {l : List (Key × D)} {us : List (Key × V)}, AL G H l us → AL G H (l.map (fun p => if p.1 = k then (p.1, d) else p)) (us.map (fun kv => if kv.1 = k then (kv.1, v) else kv))
  | [], [], _ => True.intro
  | p :: l, q :: us, h => by
    rw [List.map_cons, List.map_cons]
    refine ⟨?_, ?_, AL.map k r h.2.2⟩
    · rw [h.1]
      by_cases z : p.1 = k
      · rw [if_pos z, if_pos z]
      · rw [if_neg z, if_neg z]
        exact h.1
    · rw [h.1]
      by_cases z : p.1 = k
      · rw [if_pos z, if_pos z]
        exact r
      · rw [if_neg z, if_neg z]
        exact h.2.1
  | [], _ :: _, h => h.elim
  | _ :: _, [], h => h.elim
theorem AL.snoc {k : Key} {d : D} {v : V} (r : Rds G H d v []) : ∀ {l : List (Key × D)} {us : List (Key × V)}, AL G H l us → AL G H (l ++ [(k, d)]) (us ++ [(k, v)])
  | [], [], _ => ⟨rfl, r, True.intro⟩
  | p :: l, q :: us, h => ⟨h.1, h.2.1, AL.snoc r h.2.2⟩
  | [], _ :: _, h => h.elim
  | _ :: _, [], h => h.elim
theorem AL.put {k : Key} {d : D} {v : V} (r : Rds G H d v []) {l : List (Key × D)} {us : List (Key × V)} (h : AL G H l us) : AL G H (putDk l k d) (putK us k v) := by
  unfold putDk putK
  rw [h.any k]
  split
  · exact h.map k r
  · exact h.snoc r
theorem AL.len : ∀ {l : List (Key × D)} {us : List (Key × V)}, AL G H l us → us.length = l.length := fun h => by
  have := congrArg List.length h.keys
  simpa using this
theorem AL.of : ∀ {ks : List Key} {ds : List D} {us : List (Key × V)}, us.map (·.1) = ks → RdsL G H ds (us.map (·.2)) [] → AL G H (ks.zip ds) us
  | [], ds, [], _, r => by
    rw [List.zip_nil_left]
    exact True.intro
  | [], _, _ :: _, e, _ => by cases e
  | k :: ks, ds, [], e, _ => by cases e
  | k :: ks, [], q :: us, e, r => by
    obtain ⟨h, _⟩ := rdsL_nil.mp r
    cases h
  | k :: ks, d :: ds, q :: us, e, r => by
    obtain ⟨x, rr, A, B, e1, e2, h1, h2⟩ := rdsL_cons.mp r
    obtain ⟨rfl, rfl⟩ := List.append_eq_nil_iff.mp e2.symm
    rw [List.map_cons] at e1 e
    cases e1
    cases e
    exact ⟨rfl, h1, AL.of rfl h2⟩
theorem AL.chg {H' : Hp} {M : Addr → Prop} (c : Chg M H H') : ∀ {l : List (Key × D)} {us : List (Key × V)}, AL G H l us → AL G H' l us
  | [], [], _ => True.intro
  | p :: l, q :: us, h => ⟨h.1, Rds.chg c _ _ _ (fun a h => by cases h) h.2.1, AL.chg c h.2.2⟩
  | [], _ :: _, h => h.elim
  | _ :: _, [], h => h.elim
theorem rdsL_noF : ∀ {ds : List D} {us : List V} {A : List Addr}, D.atomL ds = true → RdsL G H ds us A → A = []
  | [], _, _, _, r => (rdsL_nil.mp r).2
  | d :: ds, _, _, h, r => by
    obtain ⟨x, rr, A, B, rfl, rfl, h1, h2⟩ := rdsL_cons.mp r
    unfold D.atomL at h
    rw [Bool.and_eq_true] at h
    rw [Rds.atom _ _ _ h.1 h1, rdsL_noF h.2 h2]
    rfl
end
end
end VL
set_option maxHeartbeats 4000000
namespace VL
noncomputable section
open PySem PySem.Spec PyProof.Rows L2
open GxR (TabB Tabbed)
variable [LamT]
section
variable {G : Gb} {X : Cx} {σ : L2.St} {H : Hp} {Q : VK}
variable {scope : Scope} {own : List (Str × Nat)} {pos q p1 p2 p3 p4 : Pos} {x y : Str} {c1 : Nat}
end
end
end VL
set_option maxHeartbeats 4000000
namespace VL
noncomputable section
open PySem PySem.Spec PyProof.Rows L2
open GxR (TabB Tabbed)
variable [LamT]
end
end VL
set_option maxHeartbeats 4000000
namespace VL
noncomputable section
open PySem PySem.Spec PyProof.Rows L2
open GxR (TabB Tabbed)
variable [LamT]
def rDpop : V → List V → Hp → VK → Prop := fun x vs H Q => ∃ l k kvs v, x = .ref l ∧ vs = [kV k] ∧ H l = some (.dK kvs) ∧ valV kvs k = some v ∧ Q v (upd H l (.dK (dropK kvs k)))
omit [LamT] in
theorem mt_dpop {X : Cx} : MtR X "dict.pop" rDpop := by
  intro pins s σ H x vs v us Q I rx rv h
  obtain ⟨l, k, kvs, w, rfl, rfl, h1, h2, q⟩ := h
  cases rx
  obtain ⟨u, rfl, ru⟩ := Vals.one rv
  exact d_pop I h1 ru h2 (.inl rfl) fun w' s' I' rw' => ⟨w, _, I', rw', q⟩
def opPopD : OPD
  | .dct ks ds, [kd] => match keyD kd with
    | some k => (match atK ks ds k with
      | some d => if D.atomL ds then some (.dct (((ks.zip ds).filter fun p => decide (p.1 ≠ k)).map (·.1)) (((ks.zip ds).filter fun p => decide (p.1 ≠ k)).map (·.2)), d) else none
      | none => none)
    | none => none
  | _, _ => none
section
variable {G : Gb} {X : Cx} {H : Hp}
theorem AL.drop (k : Key) : ∀ {l : List (Key × D)} {us : List (Key × V)}, AL G H l us → AL G H (l.filter fun p => decide (p.1 ≠ k)) (dropK us k)
  | [], [], _ => True.intro
  | p :: l, q :: us, h => by
    have ih := AL.drop k h.2.2
    unfold dropK at ih ⊢
    rw [List.filter_cons, List.filter_cons, h.1]
    split
    · exact ⟨h.1, h.2.1, ih⟩
    · exact ih
  | [], _ :: _, h => h.elim
  | _ :: _, [], h => h.elim
theorem keyD_kV {kd : D} {k : Key} {v : V} {F : List Addr} (e : keyD kd = some k) (r : Rds G H kd v F) : v = kV k := by
  unfold keyD at e
  split at e
  · cases e
    exact (rds_int.mp r).1
  · cases e
    exact (rds_str.mp r).1
  · cases e
theorem mut_dpop : MutOk G rDpop opPopD := fun H sd sv A ds vs B Q sd' res r1 r2 ndA ndB ap e ha q => by
  unfold opPopD at e
  split at e
  · rename_i ks ds' kd
    split at e
    · rename_i k ek
      split at e
      · rename_i d ed
        split at e
        · rename_i hc
          cases e
          obtain ⟨a, us, A', rfl, h1, ⟨h2, n2⟩, h3, rfl⟩ := rds_dct.mp r1
          obtain ⟨y, rfl, h4⟩ := rdsL1 r2
          have z1 := rdsL_noF hc h3
          subst z1
          have ey := keyD_kV ek h4
          subst ey
          have A1 := AL.of h2 h3
          have A2 := A1.drop k
          obtain ⟨w, A0, hw, rw, _⟩ := (rdsL_atK (k := k) h3).1 res (by rw [h2]; exact ed)
          have z2 := Rds.atom _ _ _ ha rw
          subst z2
          refine ⟨a, k, us, w, rfl, rfl, h1, hw, ?_⟩
          have c : Chg (fun z => z = a) H (upd H a (.dK (dropK us k))) := Chg.put h1 rfl rfl
          have A3 := A2.chg c
          have k1 : (((ks.zip ds').map (·.1)) = ks) := by rw [← A1.keys, h2]
          refine q _ _ [a] (rds_dct.mpr ⟨a, _, [], rfl, upd_same, ⟨A3.keys, ?_⟩, A3.rds, rfl⟩) (Rds.chg c _ _ _ (fun a h => by cases h) rw) (by simp) (fun z hz => .inl (by rw [List.mem_singleton.mp hz]; exact List.mem_cons_self)) (c.mono fun q o _ h => by rw [h]; exact List.mem_cons_self)
          have := n2
          rw [← k1] at this
          exact this.sublist (List.filter_sublist.map _)
        · cases e
      · cases e
    · cases e
  · cases e
end
end
end VL
set_option maxHeartbeats 4000000
namespace VL
open PySem PySem.Spec PyProof.Rows L2
open GxR (TabB Tabbed)
variable [LamT]
noncomputable section
end
end VL
set_option maxHeartbeats 4000000
namespace VL
noncomputable section
open PySem PySem.Spec PyProof.Rows L2
open GxR (TabB Tabbed)
structure Grn (s s' : Shared) : Prop where
  hp : ∀ b o, s.heap.get? b = some o → s'.heap.get? b = some o
  gn : s'.gens = s.gens
  dr : s'.drawn = s.drawn
  os : s'.os = s.os
theorem Grn.refl {s : Shared} : Grn s s := ⟨fun _ _ e => e, rfl, rfl, rfl⟩
theorem Grn.trans {s s1 s2 : Shared} (a : Grn s s1) (b : Grn s1 s2) : Grn s s2 := ⟨fun x o e => b.hp x o (a.hp x o e), b.gn.trans a.gn, b.dr.trans a.dr, b.os.trans a.os⟩
section
variable {X : Cx}
variable {pins : List (Addr × Obj)} {σ : L2.St} {H : Hp} {s : Shared}
end
end
end VL
set_option maxHeartbeats 4000000
namespace VL
noncomputable section
open PySem PySem.Spec PyProof.Rows L2
open GxR (TabB Tabbed)
variable [LamT]
end
end VL
set_option maxHeartbeats 4000000
namespace VL
noncomputable section
open PySem PySem.Spec PyProof.Rows L2
variable [LamT]
end
end VL
set_option maxHeartbeats 4000000
namespace VL
open PySem PySem.Spec PyProof.Rows L2
variable [LamT]
end VL
set_option maxHeartbeats 4000000
namespace TA
open PySem PySem.Spec PyProof.Rows L2
end TA
set_option maxHeartbeats 4000000
namespace VL
open PySem PySem.Spec PyProof.Rows L2
open GxR (TabB Tabbed)
variable [LamT]
noncomputable section
end
end VL
set_option maxHeartbeats 4000000
namespace VL
open PySem PySem.Spec PyProof.Rows L2
open GxR (TabB Tabbed)
variable [LamT]
noncomputable section
end
end VL
set_option maxHeartbeats 4000000
namespace VL
open PySem PySem.Spec PyProof.Rows L2
open GxR (TabB Tabbed)
variable [LamT]
noncomputable section
end
end VL
set_option maxHeartbeats 4000000
namespace VL
open PySem PySem.Spec PyProof.Rows L2
open GxR (TabB Tabbed)
variable [LamT]
noncomputable section
end
end VL
set_option maxHeartbeats 4000000
namespace VL
open PySem PySem.Spec PyProof.Rows L2
open GxR (TabB Tabbed)
variable [LamT]
noncomputable section
theorem subC {P : Nat → Prop} {a b : List Nat} (h : ∀ c ∈ b, P c) (s : a.all (fun c => b.contains c) = true := by decide) : ∀ c ∈ a, P c := fun c hc => h c (by have := List.all_eq_true.mp s c hc; simpa using this)
theorem XHot.up {G : Gb} {X : Cx} {cs cs' : List Nat} (x : XHot G X cs) (s : cs.all (fun c => cs'.contains c) = true) : XHot G X cs' :=
  let ⟨a, c, d, oe, h1, h2⟩ := x.ex
  ⟨x.K, x.un, a, c, d, oe, subC (P := fun c => c ∈ cs') (fun _ h => h) s c h1, h2⟩
end
end VL
set_option maxHeartbeats 4000000
namespace VL
open PySem PySem.Spec PyProof.Rows L2
open GxR (TabB Tabbed)
variable [LamT]
noncomputable section
end
end VL
set_option maxHeartbeats 4000000
namespace VL
open PySem PySem.Spec PyProof.Rows L2
open GxR (TabB Tabbed)
variable [LamT]
noncomputable section
section
variable {G : Gb} {H : Hp}
theorem rdsL_revB : ∀ {ds : List D} {vs : List V} {F : List Addr}, RdsL G H ds vs F → ∃ A, RdsL G H ds.reverse vs.reverse A ∧ A.Perm F
  | [], _, F, h => by
    obtain ⟨rfl, rfl⟩ := rdsL_nil.mp h
    exact ⟨[], by simpa using h, List.Perm.refl _⟩
  | d :: ds, _, F, h => by
    obtain ⟨x, r, A, B, rfl, rfl, h1, h2⟩ := rdsL_cons.mp h
    obtain ⟨B', h3, h4⟩ := rdsL_revB h2
    refine ⟨B' ++ A, ?_, (h4.append_right A).trans List.perm_append_comm⟩
    rw [List.reverse_cons, List.reverse_cons]
    refine rdsL_app h3 ?_
    exact rdsL_cons.mpr ⟨x, [], A, [], rfl, (List.append_nil A).symm, h1, rdsL_nil.mpr ⟨rfl, rfl⟩⟩
def opRev : OPD
  | .lst ds, [] => some (.lst ds.reverse, .non)
  | _, _ => none
theorem mut_rev : MutOk G rReverse opRev := fun H sd sv A ds vs B Q sd' res r1 r2 ndA ndB ap e ha q => by
  unfold opRev at e
  split at e
  · cases e
    obtain ⟨a, xs, A', rfl, h1, h2, rfl⟩ := rds_lst.mp r1
    obtain ⟨rfl, rfl⟩ := rdsL_nil.mp r2
    obtain ⟨A2, h3, pm⟩ := rdsL_revB h2
    exact ⟨a, xs, rfl, rfl, h1, mut_less (B := []) h1 ndA (fun _ _ => rds_non.mpr ⟨rfl, rfl⟩) h3 ⟨A2, pm, List.Sublist.refl _⟩ q⟩
  · cases e
end
end
end VL
set_option maxHeartbeats 4000000
namespace VL
open PySem PySem.Spec PyProof.Rows L2
open GxR (TabB Tabbed)
variable [LamT]
noncomputable section
section
variable {G : Gb} {H H' : Hp}
theorem rdsL_hole {ds : List D} {vs : List V} {F : List Addr} {j : Nat} {d : D} (h : RdsL G H ds vs F) (e : ds[j]? = some d) : ∃ x X B Y, vs[j]? = some x ∧ Rds G H d x B ∧ F = X ++ (B ++ Y) ∧ RdsL G H (ds.set j .any) vs (X ++ Y) := by
  obtain ⟨x, A, B, C', h1, h2, h3, h4, rfl⟩ := rdsL_split h e
  refine ⟨x, A, B, C', h1, h3, rfl, ?_⟩
  have := rdsL_join (d := .any) (B := []) (List.getElem?_eq_some_iff.mp e).1 (rdsL_len h) h1 h2 (by unfold Rds; rfl) h4
  simpa using this
end
abbrev rMvF (G : Gb) (c : Nat) (f g : Str) : V → List V → Hp → VK → Prop := fun x vs H Q => ∃ a dx us b bs s, vs = [] ∧ x = .ref a ∧ H a = some (.ins (G.cls c) dx us) ∧ us.lookup f = some (.ref b) ∧ H b = some (.lst bs) ∧ bs.length < sizeLine ∧ us.lookup g = some s ∧ Q .non (upd H b (.lst (bs ++ [s])))
def opMvF (c : Nat) (f g : Str) : OPD := fun sd ds => match sd, ds with
  | .obj c' ns es, [] => if c' = c then (match idxS f ns, idxS g ns with
    | some jf, some jg => if jf = jg then none else (match es[jf]?, es[jg]? with
      | some (.lst xs), some dg => if sl (decide (xs.length < sizeLine)) then some (.obj c ns ((es.set jg .any).set jf (.lst (xs ++ [dg]))), .non) else none
      | _, _ => none)
    | _, _ => none) else none
  | _, _ => none
section
variable {G : Gb}
theorem mut_mvF {c : Nat} {f g : Str} : MutOk G (rMvF G c f g) (opMvF c f g) := fun H sd sv A ds vs B Q sd' res r1 r2 ndA ndB ap e ha q => by
  unfold opMvF at e
  split at e
  · rename_i c' ns es
    split at e
    · rename_i hc
      subst hc
      split at e
      · rename_i jf jg ef eg
        split at e
        · cases e
        · rename_i hne
          split at e
          · rename_i xs dg e1 e2
            split at e
            · rename_i hl
              replace hl := sl_iff.mp hl
              cases e
              obtain ⟨a, dx, us, A0, rfl, h1, h2, h3, rfl⟩ := rds_obj.mp r1
              obtain ⟨rfl, rfl⟩ := rdsL_nil.mp r2
              subst h2
              obtain ⟨s, X, Bg, Y, k1, k2, rfl, k3⟩ := rdsL_hole h3 e2
              have e1' : (es.set jg .any)[jf]? = some (.lst xs) := by rw [List.getElem?_set_ne (Ne.symm hne)]; exact e1
              obtain ⟨fv, A1, A2, A3, g1, g2, g3, g4, g5⟩ := rdsL_split k3 e1'
              obtain ⟨b, bs, Ab, rfl, g6, g7, rfl⟩ := rds_lst.mp g3
              have hlb : bs.length = xs.length := rdsL_len g7
              have ndA' := ndA
              rw [List.nodup_cons] at ndA
              obtain ⟨na, nd0⟩ := ndA
              have mem : ∀ z, z ∈ X ++ Y → z ∈ X ++ (Bg ++ Y) := fun z hz => by
                simp only [List.mem_append] at hz ⊢
                exact hz.elim .inl fun w => .inr (.inr w)
              have nd1 : (X ++ Y).Nodup := by
                refine List.Sublist.nodup ?_ nd0
                exact List.Sublist.append (List.Sublist.refl X) (List.sublist_append_right Bg Y)
              have apB : ∀ z ∈ Bg, z ∉ X ++ Y := fun z hz hw => by
                rw [List.nodup_append] at nd0
                obtain ⟨_, n2, n3⟩ := nd0
                rw [List.nodup_append] at n2
                rcases List.mem_append.mp hw with w | w
                · exact n3 z w z (List.mem_append_left _ hz) rfl
                · exact n2.2.2 z hz z w rfl
              have ndB' : Bg.Nodup := by
                rw [List.nodup_append] at nd0
                obtain ⟨_, n2, _⟩ := nd0
                rw [List.nodup_append] at n2
                exact n2.1
              rw [g5] at nd1 apB
              have inB : b ∈ A1 ++ ((b :: Ab) ++ A3) := by simp
              have nb : b ≠ a := fun z => na (mem a (by rw [g5]; simp [z]))
              have nbB : b ∉ Bg := fun z => apB b z inB
              obtain ⟨m1, m2, m3⟩ : b ∉ A1 ∧ b ∉ Ab ∧ b ∉ A3 := by
                rw [List.nodup_append] at nd1
                obtain ⟨_, n2, n3⟩ := nd1
                rw [List.nodup_append] at n2
                obtain ⟨n4, _, n5⟩ := n2
                rw [List.nodup_cons] at n4
                exact ⟨fun z => n3 b z b (by simp) rfl, n4.1, fun z => n5 b (by simp) b z rfl⟩
              have c1 : Chg (fun q => q = b) H (upd H b (.lst (bs ++ [s]))) := Chg.put g6 rfl rfl
              refine ⟨a, dx, us, b, bs, s, rfl, rfl, h1, idxS_lookup ef g1, g6, by omega, idxS_lookup eg k1, ?_⟩
              have st : ∀ {l : List Addr}, b ∉ l → ∀ z ∈ l, ¬ z = b := fun h z hz e => h (by rw [← e]; exact hz)
              have rl : RdsL G (upd H b (.lst (bs ++ [s]))) (xs ++ [dg]) (bs ++ [s]) (Ab ++ (Bg ++ [])) :=
                rdsL_app (RdsL.chg c1 _ _ _ (st m2) g7) (rdsL_cons.mpr ⟨s, [], Bg, [], rfl, rfl, Rds.chg c1 _ _ _ (st nbB) k2, rdsL_nil.mpr ⟨rfl, rfl⟩⟩)
              have rd : RdsL G (upd H b (.lst (bs ++ [s]))) ((es.set jg .any).set jf (.lst (xs ++ [dg]))) (us.map (·.2)) (A1 ++ ((b :: (Ab ++ (Bg ++ []))) ++ A3)) :=
                rdsL_join (List.getElem?_eq_some_iff.mp e1').1 (rdsL_len k3) g1 (RdsL.chg c1 _ _ _ (st m1) g2) (rds_lst.mpr ⟨b, _, _, rfl, upd_same, rl, rfl⟩) (RdsL.chg c1 _ _ _ (st m3) g4)
              refine q .non _ (a :: (A1 ++ ((b :: (Ab ++ (Bg ++ []))) ++ A3))) (rds_obj.mpr ⟨a, dx, us, _, rfl, by rw [upd_ne (Ne.symm nb)]; exact h1, rfl, rd, rfl⟩) (rds_non.mpr ⟨rfl, rfl⟩) ?_ (fun z hz => .inl ?_) (c1.mono fun q o _ h => ?_)
              · have apA : ∀ z ∈ Bg, z ∉ A1 ∧ z ≠ b ∧ z ∉ Ab ∧ z ∉ A3 := fun z hz => by
                  have := apB z hz
                  simp only [List.cons_append, List.mem_append, List.mem_cons, not_or] at this
                  exact ⟨this.1, this.2.1, this.2.2.1, this.2.2.2⟩
                have hp : (A1 ++ ((b :: (Ab ++ (Bg ++ []))) ++ A3)).Perm (Bg ++ (A1 ++ ((b :: Ab) ++ A3))) := by
                  rw [List.append_nil]
                  have p1 : ((b :: (Ab ++ Bg)) ++ A3).Perm (Bg ++ ((b :: Ab) ++ A3)) := by
                    have : (b :: (Ab ++ Bg)) ++ A3 = ((b :: Ab) ++ Bg) ++ A3 := by simp
                    rw [this, ← List.append_assoc]
                    exact List.perm_append_comm.append_right A3
                  exact (p1.append_left A1).trans (List.perm_append_comm_assoc A1 Bg _)
                rw [List.nodup_cons]
                refine ⟨fun z => ?_, hp.nodup_iff.mpr ?_⟩
                · have z := hp.mem_iff.mp z
                  rcases List.mem_append.mp z with w | w
                  · exact na (by simp [w])
                  · exact na (mem a (by rw [g5]; exact w))
                · rw [List.nodup_append]
                  exact ⟨ndB', nd1, fun z hz w hw e => apB z hz (e ▸ hw)⟩
              · rcases List.mem_cons.mp hz with rfl | hz
                · exact List.mem_cons_self
                · refine List.mem_cons_of_mem _ ?_
                  by_cases hB : z ∈ Bg
                  · simp [hB]
                  · refine mem z ?_
                    rw [g5]
                    simp only [List.append_nil, List.cons_append, List.mem_append, List.mem_cons] at hz ⊢
                    rcases hz with w | w | (w | w) | w
                    · exact .inl w
                    · exact .inr (.inl w)
                    · exact .inr (.inr (.inl w))
                    · exact absurd w hB
                    · exact .inr (.inr (.inr w))
              · rw [h]
                exact List.mem_cons_of_mem _ (mem b (by rw [g5]; exact inB))
            · cases e
          · cases e
      · cases e
    · cases e
  · cases e
end
def MutN (G : Gb) (r : V → List V → Hp → VK → Prop) (op : OPD) : Prop := ∀ (H : Hp) (sd : D) (sv : V) (A : List Addr) (ds : List D) (vs : List V) (B : List Addr) (Q : VK) (sd' res : D), Rds G H sd sv A → RdsL G H ds vs B → A.Nodup → B.Nodup → (∀ a ∈ A, a ∉ B) → op sd ds = some (sd', res) → res.atom = true →
  (∀ v H' A', Rds G H' sd' sv A' → Rds G H' res v [] → A'.Nodup → (∀ a ∈ A', a ∈ A ∨ a ∈ B ∨ H a = none) → Chg (fun a => a ∈ A) H H' → Q v H') → r sv vs H Q
theorem MutOk.n {G : Gb} {r : V → List V → Hp → VK → Prop} {op : OPD} (P : MutOk G r op) : MutN G r op := fun H sd sv A ds vs B Q sd' res a b c d e f g h => P H sd sv A ds vs B Q sd' res a b c d e f g fun v H' A' k1 k2 k3 k4 k5 => h v H' A' k1 k2 k3 (fun z hz => (k4 z hz).imp id .inl) k5
section
variable {G : Gb} {C : Ctx} {H : Hp} {σ : L2.St} {E : Env} {Fs : Nat → List Addr} {i : Nat} {m : Mode} {sd sd' res : D} {v : V} {ds : List D} {vs : List V} {B : List Addr} {op : OPD} {r : V → List V → Hp → VK → Prop} {Q : VK}
theorem slot_mut (P : MutN G r op) (R : Rel G C H σ E Fs) (e : E[i]? = some (some (m, sd))) (hw : m.w = true) (hv : σ[i]? = some (some v)) (ha : RdsL G H ds vs B) (ndB : B.Nodup)
    (hB : ∀ a ∈ B, C.H0 a = none ∧ ¬ C.T a ∧ ∀ j, Asg E j → a ∉ Fs j) (eo : op sd ds = some (sd', res)) (hr : res.atom = true)
    (q : ∀ v3 H' Fs', Rel G C H' σ (E.set i (some (m, sd'))) Fs' → Rds G H' res v3 [] → Q v3 H') : r v vs H Q := by
  obtain ⟨v0, h1, h2, _⟩ := R.rd i m sd e
  rw [hv] at h1
  cases h1
  refine P H sd v (Fs i) ds vs B Q sd' res h2 ha (R.nd i m sd e hw).1 ndB (fun a h1 h2 => (hB a h2).2.2 i ⟨m, sd, e⟩ h1) eo hr fun v3 H' A' rA rR nd inA c => ?_
  refine q v3 H' _ (R.write e hw hv c rA nd fun a ha => ?_) rR
  rcases inA a ha with z | z | z
  · exact .inl z
  · exact .inr ⟨(hB a z).1, (hB a z).2.1, fun j _ hj => (hB a z).2.2 j hj⟩
  · exact .inr ⟨(R.hn a z).1, (R.hn a z).2, fun j _ hj => (R.loose z).2 j hj⟩
end
def sMvF (i c : Nat) (f g : Str) : SF := fun E => match E[i]? with
  | some (some (m, sd)) => if m.w then (match opMvF c f g sd [] with
    | some (sd', _) => some (.nx (E.set i (some (m, sd'))))
    | none => none) else none
  | _ => none
theorem sMvF_ap (i c : Nat) (f g : Str) (E : Env) : sMvF i c f g E = (match E[i]? with
  | some (some (m, sd)) => if m.w then (match opMvF c f g sd [] with
    | some (sd', _) => some (.nx (E.set i (some (m, sd'))))
    | none => none) else none
  | _ => none) := rfl
section
variable {G : Gb} {X : Cx} {ro : Bool} {i c : Nat} {o o2 : Expr} {f g : Str} {p1 p2 pos apos cpos : Pos}
theorem opMvF_non {sd sd' res : D} (h : opMvF c f g sd [] = some (sd', res)) : res = .non := by
  unfold opMvF at h
  split at h
  · split at h
    · split at h
      · split at h
        · cases h
        · split at h
          · split at h
            · cases h; rfl
            · cases h
          · cases h
      · cases h
    · cases h
  · cases h
theorem vs_mvF (x : XOk G X) (cl : Cls G.K (G.cls c)) (nf : NoAttr G.K (G.cls c) f) (ng : NoAttr G.K (G.cls c) g) (ho : PE X o (tVar i)) (ho2 : PE X o2 (tVar i))
    (hb1 : attributeBase o f X.env (eval o X.env) = eval o X.env := by rfl) (hb2 : attributeBase o2 g X.env (eval o2 X.env) = eval o2 X.env := by rfl)
    (hbase : attributeBase (.Attribute o f p1) "append" X.env (eval (.Attribute o f p1) X.env) = eval (.Attribute o f p1) X.env := by rfl)
    (hfew : ((backTo cpos (starEach [.Attribute o2 g p2] X.env)).all (fun x => !x.1) && (backToKw cpos (keywordEach [] X.env)).all (fun x => x.1.isSome)
      && decide (([.Attribute o2 g p2] : List Expr).length + ([] : List Keyword).length + (if ([] : List Keyword).isEmpty then 0 else 1) < 30)) = true := by rfl)
    (hline : (apos.endLine == cpos.line) = true := by rfl) (hs : starEach [.Attribute o2 g p2] X.env = (false, eval (.Attribute o2 g p2) X.env) :: starEach [] X.env := by rfl) (hplain : (backTo cpos (starEach [] X.env)).any (·.1) = false := by rfl)
    (hsw : swapsWith (.Call (.Attribute (.Attribute o f p1) "append" apos) [.Attribute o2 g p2] [] cpos) none pos.line X.env = pure false := by rfl) :
    VS G X ro (.Expr (.Call (.Attribute (.Attribute o f p1) "append" apos) [.Attribute o2 g p2] [] cpos) pos) (sMvF i c f g) :=
  PS.imp (ps_expr (pe_bm PySem.F.plainAttrs_list PySem.F.slot_list_append PySem.F.type_list_append mt_append (pe_fld ho hb1) (pa_cons (pe_fld ho2 hb2) pa_nil hs) hbase hfew hline hs hplain) hsw) fun N σ H ⟨C, E, Fs, R, out, e, q⟩ => by
    unfold sMvF at e
    split at e
    · rename_i m sd ei
      split at e
      · rename_i hw
        split at e
        · rename_i sd' res eo
          cases e
          obtain ⟨v, hv, rv, _⟩ := R.rd i _ _ ei
          have z := slot_mut (Q := fun _ H' => N.nx σ H') mut_mvF.n R ei hw hv (rdsL_nil.mpr ⟨rfl, rfl⟩) List.nodup_nil (fun a h => by cases h) eo (by rw [opMvF_non eo]; rfl) fun v3 H' Fs' R' _ => q σ H' Fs' R'
          obtain ⟨a, dx, us, b, bs, s, _, rfl, h1, h2, h3, h4, h5, h6⟩ := z
          rw [← x.K] at cl nf ng
          exact ⟨.ref a, hv, a, G.cls c, dx, us, .ref b, rfl, h1, cl, nf, h2, .inl ⟨rfl, bs, SqL.of h3⟩, .ref a, hv, a, G.cls c, dx, us, s, rfl, h1, cl, ng, h5, b, bs, s, rfl, rfl, h3, h4, h6⟩
        · cases e
      · cases e
    · cases e
end
def sAugF (o : Int → Int → Int) (i c : Nat) (n : Str) (f : EF) : SF := fun E => match E[i]? with
  | some (some (m, .obj c' ns ds)) => if m.w && decide (c' = c) && decide (ns.length < 1000) then (match idxS n ns with
    | some j => (match ds[j]? with
      | some (.int a) => (match f E with
        | some (.int b, E1) => some (.nx (E1.set i (some (m, .obj c ns (ds.set j (.int (o a b)))))))
        | _ => none)
      | _ => none)
    | none => none) else none
  | _ => none
theorem sAugF_ap (o : Int → Int → Int) (i c : Nat) (n : Str) (f : EF) (E : Env) : sAugF o i c n f E = (match E[i]? with
  | some (some (m, .obj c' ns ds)) => if m.w && decide (c' = c) && decide (ns.length < 1000) then (match idxS n ns with
    | some j => (match ds[j]? with
      | some (.int a) => (match f E with
        | some (.int b, E1) => some (.nx (E1.set i (some (m, .obj c ns (ds.set j (.int (o a b)))))))
        | _ => none)
      | _ => none)
    | none => none) else none
  | _ => none) := rfl
theorem putND_set {n : Str} {d : D} : ∀ {ns : List Str} {ds : List D} {j : Nat}, idxS n ns = some j → j < ds.length → putND n d ns ds = (ns, ds.set j d)
  | [], ds, j, h, _ => by cases h
  | m :: ms, [], j, h, hl => by simp at hl
  | m :: ms, e :: es, j, h, hl => by
    have h : (if m = n then some 0 else (idxS n ms).map (· + 1)) = some j := h
    by_cases z : m = n
    · rw [if_pos z] at h
      cases h
      show (if m = n then _ else _) = _
      rw [if_pos z]
      rfl
    · rw [if_neg z] at h
      obtain ⟨j', h', rfl⟩ := Option.map_eq_some_iff.mp h
      show (if m = n then _ else _) = _
      rw [if_neg z, putND_set (d := d) h' (by simpa using hl)]
      rfl
section
variable {G : Gb} {X : Cx} {ro : Bool} {i c : Nat} {o value : Expr} {n : Str} {op : Operator} {g : Int → Int → Int} {k : Kind} {f : EF} {pos tpos : Pos} {rd : V → V → Hp → VK → Prop}
theorem vs_augF (hK : X.K = G.K) (cl : Cls G.K (G.cls c)) (na : NoAttr G.K (G.cls c) n) (ho : PE X o (tVar i)) (he : VE G X value [] k f) (hop : InOp X op rd) (hrd : ∀ a b H Q, Q (.int (g a b)) H → rd (.int a) (.int b) H Q) :
    VS G X ro (.AugAssign (.Attribute o n tpos) op value pos) (sAugF g i c n f) :=
  PS.imp (ps_fldaug ho he hop) fun N σ H ⟨C, E, Fs, R, out, e, q⟩ => by
    unfold sAugF at e
    split at e
    · rename_i m c' ns ds ei
      split at e
      · rename_i hc
        simp only [Bool.and_eq_true, decide_eq_true_eq] at hc
        obtain ⟨⟨hw, rfl⟩, hl⟩ := hc
        split at e
        · rename_i j ej
          split at e
          · rename_i a ea
            split at e
            · rename_i b E1 e1
              cases e
              obtain ⟨v, hv, rv, _⟩ := R.rd i _ _ ei
              have rv0 := rv
              obtain ⟨ad, dx, us, A, rfl, h1, h2, h3, h4⟩ := rds_obj.mp rv
              obtain ⟨y, A1, g1, g2, _⟩ := rdsL_get h3 ea
              obtain ⟨rfl, _⟩ := rds_int.mp g2
              subst h2
              rw [← hK] at cl na
              refine ⟨.ref ad, hv, ad, _, dx, us, .int a, rfl, h1, cl, na, idxS_lookup ej g1, C, E, Fs, R, _, E1, e1, fun w H1 Fs1 F R1 s1 r1 k1 => ?_⟩
              obtain ⟨rfl, _⟩ := rds_int.mp r1
              refine hrd a b H1 _ ?_
              have ei1 : E1[i]? = some (some (m, .obj c' (us.map (·.1)) ds)) := by rw [s1.env i (by simp)]; exact ei
              have lj : j < ds.length := (List.getElem?_eq_some_iff.mp ea).1
              have eo : opFld c' n (.obj c' (us.map (·.1)) ds) [.int (g a b)] = some (.obj c' (us.map (·.1)) (ds.set j (.int (g a b))), .non) := by
                unfold opFld
                dsimp only
                rw [if_pos rfl, if_pos hl, putND_set ej lj]
              have z := slot_mut (Q := fun _ H' => N.nx σ H') (mut_fld (c := c') (n := n)).n R1 ei1 hw hv (ds := [.int (g a b)]) (vs := [.int (g a b)]) (B := []) (rdsL_cons.mpr ⟨_, [], [], [], rfl, rfl, rds_int.mpr ⟨rfl, rfl⟩, rdsL_nil.mpr ⟨rfl, rfl⟩⟩) List.nodup_nil (fun a h => by cases h) eo rfl fun v3 H' Fs' R' _ => q σ H' Fs' R'
              obtain ⟨y, a2, dx2, fs2, h5, h6, h7, h8, h9⟩ := z
              cases h5
              cases h6
              exact ⟨dx2, fs2, h7, h8, h9⟩
            · cases e
          · cases e
        · cases e
      · cases e
    · cases e
end
theorem rAdd_of : ∀ a b H Q, Q (.int (a + b)) H → rAdd (.int a) (.int b) H Q := fun a b H Q q => ⟨a, b, rfl, rfl, q⟩
abbrev spM (n : Nat) (r : V → List V → Hp → VK → Prop) : Sp := fun vs H Q _ => vs.length = n ∧ ∃ x xs, vs = x :: xs ∧ r x xs H Q
def sMethM (i c : Nat) (m : Str) (k : Kind) (f : EF) (op : OPD) : SF := fun E => match E[i]? with
  | some (some (mo, sd)) => if mo.w && isObj c m (some sd) then (match f E with
    | some (d, E1) => if storable k d then (match op sd [d] with
      | some (sd', .non) => some (.nx (E1.set i (some (mo, sd'))))
      | _ => none) else none
    | none => none) else none
  | _ => none
theorem sMethM_ap (i c : Nat) (m : Str) (k : Kind) (f : EF) (op : OPD) (E : Env) : sMethM i c m k f op E = (match E[i]? with
  | some (some (mo, sd)) => if mo.w && isObj c m (some sd) then (match f E with
    | some (d, E1) => if storable k d then (match op sd [d] with
      | some (sd', .non) => some (.nx (E1.set i (some (mo, sd'))))
      | _ => none) else none
    | none => none) else none
  | _ => none) := rfl
def sMethV (i c : Nat) (m : Str) (j : Nat) (op : OPD) : SF := fun E => match E[i]?, E[j]? with
  | some (some (mo, sd)), some (some (.own, d)) => if mo.w && isObj c m (some sd) && (i != j) then (match op sd [d] with
      | some (sd', .non) => some (.nx ((E.set j none).set i (some (mo, sd'))))
      | _ => none) else none
  | _, _ => none
theorem sMethV_ap (i c : Nat) (m : Str) (j : Nat) (op : OPD) (E : Env) : sMethV i c m j op E = (match E[i]?, E[j]? with
  | some (some (mo, sd)), some (some (.own, d)) => if mo.w && isObj c m (some sd) && (i != j) then (match op sd [d] with
      | some (sd', .non) => some (.nx ((E.set j none).set i (some (mo, sd'))))
      | _ => none) else none
  | _, _ => none) := rfl
section
variable {G : Gb} {X : Cx} {ro : Bool} {i j c k0 : Nat} {o e : Expr} {m : Str} {k : Kind} {f : EF} {pos apos cpos : Pos} {fa : Addr} {fd : FuncData} {ps : List Str} {op : OPD} {r : V → List V → Hp → VK → Prop} {E : XK} {pl : Sem Bool}
theorem isObj_of {H : Hp} {sd : D} {v : V} {A : List Addr} (h : isObj c m (some sd) = true) (rd : Rds G H sd v A) : ∃ a dx fs, v = .ref a ∧ H a = some (.ins (G.cls c) dx fs) ∧ fs.lookup m = none := by
  unfold isObj at h
  split at h
  · rename_i c' ns ds heq
    cases heq
    rw [Bool.and_eq_true, decide_eq_true_eq] at h
    obtain ⟨rfl, hno⟩ := h
    obtain ⟨a, dx, us, A', rfl, k1, k2, k3, _⟩ := rds_obj.mp rd
    subst k2
    exact ⟨a, dx, us, rfl, k1, idxS_none (Option.isNone_iff_eq_none.mp hno)⟩
  · cases h
theorem vs_methM (hK : X.K = G.K) (cl : Cls G.K (G.cls c)) (hm : Meth G.K (G.cls c) m fa) (F0 : TA.FnG X.prog X.w X.K X.mg X.base CX0 k0 fa fd ps (spM 2 r)) (P : MutN G r op) (hg : X.A.guards = some []) (hr : Room k0 X.A) (hb : Binds X.K fd ps []) (hx : Passes CX0 X E)
    (ho : PE X o (tVar i)) (he : VE G X e [] k f)
    (hst : starEach [e] X.env = (false, eval e X.env) :: starEach [] X.env := by rfl) (hpl : (backTo cpos (starEach [] X.env)).any (·.1) = false := by rfl)
    (ht : eval (.Call (.Attribute o m apos) [e] [] cpos) X.env = (do
      let ov ← eval o X.env
      standAt apos.atName
      let (f, first) ← holding [ov] (getMethod ov m pl)
      callWith cpos f first (backTo cpos (starEach [e] X.env)) (backToKw cpos (keywordEach [] X.env))) := by rfl)
    (hsw : swapsWith (.Call (.Attribute o m apos) [e] [] cpos) none pos.line X.env = pure false := by rfl) :
    VS G X ro (.Expr (.Call (.Attribute o m apos) [e] [] cpos) pos) (sMethM i c m k f op) :=
  PS.imp (ps_expr (pe_methG (pl := pl) ho (hK ▸ cl) (hK ▸ hm) F0 hg hr hb .nil hx (vl_cons he vl_nil (safe_nil k) hst) hst hpl ht) hsw) fun N σ H ⟨C, E0, Fs, R, out, e1, q⟩ => by
    unfold sMethM at e1
    split at e1
    · rename_i mo sd ei
      split at e1
      · rename_i hc
        rw [Bool.and_eq_true] at hc
        obtain ⟨hw, hio⟩ := hc
        split at e1
        · rename_i d E1 ef
          split at e1
          · rename_i hst
            split at e1
            · rename_i sd' eo
              cases e1
              obtain ⟨v, hv, rv, _⟩ := R.rd i _ _ ei
              obtain ⟨a, dx, fs, rfl, h1, h2⟩ := isObj_of hio rv
              refine ⟨.ref a, hv, a, dx, fs, rfl, h1, h2, C, E0, Fs, R, [d], E1, by simp [lCons, lNil, ef], fun vs H1 Fs1 FF R1 s1 a1 => ?_⟩
              have ei1 : E1[i]? = some (some (mo, sd)) := by rw [s1.env i (by simp)]; exact ei
              obtain ⟨ndB, loB⟩ := storL_ok (C := C) (show storL [k] [d] = true from hst) a1
              have ra := a1.rds
              obtain ⟨y, rfl, _⟩ := rdsL1 ra
              have z := slot_mut (Q := fun _ H' => N.nx σ H') P R1 ei1 hw hv ra ndB (fun a ha => ⟨(R.hn a (loB a ha).1).1, (R.hn a (loB a ha).1).2, fun j hj => (loB a ha).2 j hj⟩) eo rfl fun v3 H' Fs' R' _ => q σ H' Fs' R'
              exact ⟨rfl, _, _, rfl, z⟩
            · cases e1
          · cases e1
        · cases e1
      · cases e1
    · cases e1
theorem vs_methV (hK : X.K = G.K) (cl : Cls G.K (G.cls c)) (hm : Meth G.K (G.cls c) m fa) (F0 : TA.FnG X.prog X.w X.K X.mg X.base CX0 k0 fa fd ps (spM 2 r)) (P : MutN G r op) (hg : X.A.guards = some []) (hr : Room k0 X.A) (hb : Binds X.K fd ps []) (hx : Passes CX0 X E)
    (ho : PE X o (tVar i)) (he : PE X e (tVar j))
    (hst : starEach [e] X.env = (false, eval e X.env) :: starEach [] X.env := by rfl) (hpl : (backTo cpos (starEach [] X.env)).any (·.1) = false := by rfl)
    (ht : eval (.Call (.Attribute o m apos) [e] [] cpos) X.env = (do
      let ov ← eval o X.env
      standAt apos.atName
      let (f, first) ← holding [ov] (getMethod ov m pl)
      callWith cpos f first (backTo cpos (starEach [e] X.env)) (backToKw cpos (keywordEach [] X.env))) := by rfl)
    (hsw : swapsWith (.Call (.Attribute o m apos) [e] [] cpos) none pos.line X.env = pure false := by rfl) :
    VS G X ro (.Expr (.Call (.Attribute o m apos) [e] [] cpos) pos) (sMethV i c m j op) :=
  PS.imp (ps_expr (pe_methG (pl := pl) ho (hK ▸ cl) (hK ▸ hm) F0 hg hr hb .nil hx (pa_cons he pa_nil hst) hst hpl ht) hsw) fun N σ H ⟨C, E0, Fs, R, out, e1, q⟩ => by
    unfold sMethV at e1
    split at e1
    · rename_i mo sd d ei ej
      split at e1
      · rename_i hc
        simp only [Bool.and_eq_true, bne_iff_ne, ne_eq] at hc
        obtain ⟨⟨hw, hio⟩, hij⟩ := hc
        split at e1
        · rename_i sd' eo
          cases e1
          obtain ⟨v, hv, rv, _⟩ := R.rd i _ _ ei
          obtain ⟨w, hwj, rw_, _⟩ := R.rd j .own d ej
          obtain ⟨a, dx, fs, rfl, h1, h2⟩ := isObj_of hio rv
          obtain ⟨b1, b2, b3⟩ := R.nd j .own d ej rfl
          have R0 := R.forget j
          have ei' : (E0.set j none)[i]? = some (some (mo, sd)) := by rw [List.getElem?_set_ne (Ne.symm hij)]; exact ei
          have z := slot_mut (Q := fun _ H' => N.nx σ H') P R0 ei' hw hv (ds := [d]) (vs := [w]) (B := Fs j) (rdsL_cons.mpr ⟨w, [], Fs j, [], rfl, by simp, rw_, rdsL_nil.mpr ⟨rfl, rfl⟩⟩) b1 (fun a ha => ⟨(R.nw j _ _ ej).1 rfl a ha, b2 a ha, fun l ⟨ml, dl, el⟩ hm => by
            obtain ⟨el', hlj⟩ := set_none_get el
            exact b3 l ml dl hlj el' a ha hm⟩) eo rfl fun v3 H' Fs' R' _ => q σ H' Fs' R'
          exact ⟨.ref a, hv, a, dx, fs, rfl, h1, h2, w, hwj, rfl, .ref a, [w], rfl, z⟩
        · cases e1
      · cases e1
    · cases e1
end
abbrev rBecome (G : Gb) (c : Nat) : V → List V → Hp → VK → Prop := fun x vs H Q => ∃ y, vs = [y] ∧ rMvF G c "before" "standing" x [] H fun _ H1 => ∀ u, H1 u = none → rFldS G c "undone" x [.ref u] (upd H1 u (.lst [])) fun _ H2 => rFldS G c "standing" x [y] H2 Q
def opBecome (c : Nat) : OPD := fun sd ds => match ds with
  | [d] => (match opMvF c "before" "standing" sd [] with
    | some (s1, _) => (match opFld c "undone" s1 [.lst []] with
      | some (s2, _) => opFld c "standing" s2 [d]
      | none => none)
    | none => none)
  | _ => none
theorem opFld_non {c : Nat} {n : Str} {sd sd' res : D} {ds : List D} (h : opFld c n sd ds = some (sd', res)) : res = .non := by
  unfold opFld at h
  split at h
  · split at h
    · split at h
      · cases h; rfl
      · cases h
    · cases h
  · cases h
theorem mut_become {G : Gb} {c : Nat} : MutN G (rBecome G c) (opBecome c) := fun H sd sv A ds vs B Q sd' res r1 r2 ndA ndB ap e ha q => by
  unfold opBecome at e
  split at e
  · rename_i d
    split at e
    · rename_i s1 z1 e1
      split at e
      · rename_i s2 z2 e2
        obtain ⟨y, rfl, hy⟩ := rdsL1 r2
        refine ⟨y, rfl, ?_⟩
        refine mut_mvF H sd sv A [] [] [] _ s1 z1 r1 (rdsL_nil.mpr ⟨rfl, rfl⟩) ndA List.nodup_nil (fun a _ h => by cases h) e1 (by rw [opMvF_non e1]; rfl) fun v1 H1 A1 k1 k2 k3 k4 k5 => ?_
        intro u hu
        have tr1 : ∀ a ∈ A1, a ∈ A := fun a ha => (k4 a ha).elim id fun z => by cases z
        have cu : Chg No H1 (upd H1 u (.lst [])) := Chg.new hu
        have tA : ∀ a ∈ A, ∃ o, H1 a = some o := fun a ha => by
          obtain ⟨o, eo, _⟩ := Rds.trk _ _ _ r1 a ha
          exact k5.there eo
        have nuA : u ∉ A := fun h => by
          obtain ⟨o, eo⟩ := tA u h
          rw [hu] at eo
          cases eo
        have nuB : u ∉ B := fun h => by
          obtain ⟨o, eo, _⟩ := RdsL.trk _ _ _ r2 u h
          obtain ⟨o', eo'⟩ := k5.there eo
          rw [hu] at eo'
          cases eo'
        refine mut_fld (c := c) (n := "undone") _ s1 sv A1 [.lst []] [.ref u] [u] _ s2 z2 (Rds.chg cu _ _ _ (fun _ _ h => h) k1) (rdsL_cons.mpr ⟨_, [], [u], [], rfl, rfl, rds_lst.mpr ⟨u, [], [], rfl, upd_same, rdsL_nil.mpr ⟨rfl, rfl⟩, rfl⟩, rdsL_nil.mpr ⟨rfl, rfl⟩⟩) k3 (by simp) (fun a ha h => by rw [List.mem_singleton.mp h] at ha; exact nuA (tr1 u ha)) e2 (by rw [opFld_non e2]; rfl) fun v2 H2 A2 l1 l2 l3 l4 l5 => ?_
        have in2 : ∀ a ∈ A2, a ∈ A ∨ a = u := fun a ha => by
          rcases l4 a ha with z | z
          · exact .inl (tr1 a z)
          · exact .inr (List.mem_singleton.mp z)
        have c12 : Chg (fun a => a ∈ A) H H2 := ((k5.trans cu).trans l5).mono fun q o eo h => by
          rcases h with (h | h) | h
          · exact h
          · exact h.elim
          · exact tr1 q h
        refine mut_fld (c := c) (n := "standing") _ s2 sv A2 [d] [y] B _ sd' res l1 (RdsL.chg c12 _ _ _ (fun a ha h => ap a h ha) r2) l3 ndB (fun a ha h => ?_) e ha fun v3 H3 A3 m1 m2 m3 m4 m5 => ?_
        · rcases in2 a ha with z | z
          · exact ap a z h
          · exact nuB (z ▸ h)
        · refine q v3 H3 A3 m1 m2 m3 (fun a ha => ?_) ?_
          · rcases m4 a ha with z | z
            · rcases in2 a z with w | w
              · exact .inl w
              · exact .inr (.inr (w ▸ k5.back hu))
            · exact .inr (.inl z)
          · exact (c12.trans m5).mono fun q o eo h => by
              rcases h with h | h
              · exact h
              · rcases in2 q h with w | w
                · exact w
                · rw [w, k5.back hu] at eo
                  cases eo
      · cases e
    · cases e
  · cases e
end
end VL
set_option maxHeartbeats 4000000
namespace VL
open PySem PySem.Spec PyProof.Rows L2
open GxR (TabB Tabbed)
variable [LamT]
noncomputable section
structure FunDf (K : PySem.W.Frag) (x qu : Str) (st : Stmt) (f : Addr) (fd : FuncData) (dvs : List V) : Prop where
  ex : ∃ (oc : Value) (od : Option Addr) (T : Addr) (kV doc pm : Value) (an : Option Addr) (cdv ct : Value) (osl : Array (Option Value)) (oT : Obj) (its : List Value) (n : Nat),
    fd = PySem.W.fnOf x qu (defArgs st) (defBody st) (defScope st) (.ref T) kV doc pm an cdv ct ∧ K.lookup f = some ⟨oc, od, .func fd, osl⟩ ∧ PySem.W.codeIn K cdv qu = true ∧ K.lookup T = some oT ∧ oT.data = .seq its.toArray n ∧ Vals dvs its
  kp : PySem.W.keepIn K (.ref f) = true
section
variable {K : PySem.W.Frag} {x qu : Str} {st : Stmt} {f : Addr} {fd : FuncData} {ps : List Str} {dvs : List V}
theorem FunDf.binds (F : FunDf K x qu st f fd dvs) (h : ∀ (T : Addr) (kV doc pm : Value) (an : Option Addr) (cdv ct : Value) (us its : List Value), us.length = ps.length → its.length = dvs.length →
      ∃ k, bindArgs (PySem.W.fnOf x qu (defArgs st) (defBody st) (defScope st) (.ref T) kV doc pm an cdv ct) ⟨us, []⟩ = seqItems? (.ref T) >>= k ∧ k (some its.toArray) = pure (ps.zip us)) : Binds K fd ps [] := by
  obtain ⟨oc, od, T, kV, doc, pm, an, cdv, ct, osl, oT, its, m, rfl, lk, hcd, lT, dT, rT⟩ := F.ex
  intro s us X hlen
  rw [List.append_nil] at hlen ⊢
  obtain ⟨k, e1, e2⟩ := h T kV doc pm an cdv ct us its hlen rT.length.symm
  refine L2.BindsTo.of_looks fun M => ?_
  rw [e1]
  exact looks_items X lT dT (.of_pure e2)
theorem FunDf.bindsD (F : FunDf K x qu st f fd dvs) (h : ∀ (T : Addr) (kV doc pm : Value) (an : Option Addr) (cdv ct : Value) (us its : List Value), us.length + dvs.length = ps.length → its.length = dvs.length →
      ∃ k, bindArgs (PySem.W.fnOf x qu (defArgs st) (defBody st) (defScope st) (.ref T) kV doc pm an cdv ct) ⟨us, []⟩ = seqItems? (.ref T) >>= k ∧ k (some its.toArray) = pure (ps.zip (us ++ its))) : ∃ ds, Vals dvs ds ∧ Binds K fd ps ds := by
  obtain ⟨oc, od, T, kV, doc, pm, an, cdv, ct, osl, oT, its, m, rfl, lk, hcd, lT, dT, rT⟩ := F.ex
  refine ⟨its, rT, fun s us X hlen => ?_⟩
  have l1 : its.length = dvs.length := rT.length.symm
  obtain ⟨k, e1, e2⟩ := h T kV doc pm an cdv ct us its (by rw [List.length_append, l1] at hlen; exact hlen) l1
  refine L2.BindsTo.of_looks fun M => ?_
  rw [e1]
  exact looks_items X lT dT (.of_pure e2)
theorem fun_mkD {oc cT : Value} {od an dT : Option Addr} {osl sT : Array (Option Value)} {T : Addr} {its : Array Value} {n : Nat} {kV doc pm cdv ct : Value}
    (l : K.lookup f = some ⟨oc, od, .func (PySem.W.fnOf x qu (defArgs st) (defBody st) (defScope st) (.ref T) kV doc pm an cdv ct), osl⟩)
    (c : PySem.W.codeIn K cdv qu = true) (k : PySem.W.keepIn K (.ref f) = true) (lT : K.lookup T = some ⟨cT, dT, .seq its n, sT⟩) (r : Vals dvs its.toList) :
    FunDf K x qu st f (PySem.W.fnOf x qu (defArgs st) (defBody st) (defScope st) (.ref T) kV doc pm an cdv ct) dvs :=
  ⟨⟨oc, od, T, kV, doc, pm, an, cdv, ct, osl, _, its.toList, n, rfl, l, c, lT, by simp, r⟩, k⟩
end
section
variable {P : Program} {w : World} {G : Gb} {mg : Str → Option Value} {b0 : Heap} {x qu : Str} {st : Stmt} {f : Addr} {fd : FuncData} {N ps : List Str} {k : Nat} {J : List Nat} {ro : Bool} {dvs : List V}
theorem fnVd {S : SF} (F : FunDf G.K x qu st f fd dvs) (Sc : FnScope N ps (defScope st)) (hn : ps.length ≤ N.length) (hJ : J.all (fun j => decide (j < ps.length)) = true)
    (hb : ∀ (cd : Value) (B : Around) (ou : List PySem.Env) (s : Shared) (H : Hp) (E : XK), XOk G (cxOf CX0 P w G.K mg b0 N qu (defScope st) f cd B ou s H E).nox → (B.deeper (envOfC qu (defScope st) s.heap.objs.size f cd)).guards = some [] → Room k (B.deeper (envOfC qu (defScope st) s.heap.objs.size f cd)) →
      VSs G (cxOf CX0 P w G.K mg b0 N qu (defScope st) f cd B ou s H E).nox ro (defBody st) S) :
    TA.FnG P w G.K mg b0 CX0 (k + 1) f fd ps (spV G J ro ps.length (callD S N.length J)) := by
  obtain ⟨oc, od, T, kV, doc, pm, an, cd, ct, osl, oT, its, m, rfl, lk, hcd, lT, dT, rT⟩ := F.ex
  refine TA.fnG_of lk hcd Sc spV_len fun B ou s H vs Q E hg hr h => ?_
  exact ⟨_, (hb cd B ou s H E ⟨rfl, rfl, show (B.deeper (envOfC qu (defScope st) s.heap.objs.size f cd)).units + 70 < cLine by have := hr.un; omega⟩ hg hr).nox, post_call hn hJ h⟩
end
def pMakeD (n : Nat) (F : FD) (c : Nat) (dd : List D) : List D → Option D := fun ds => pMake n F c (ds ++ dd)
section
variable {G : Gb} {X : Cx} {k c : Nat} {f CA : Addr} {fd : FuncData} {ps : List Str} {ro : Bool} {F : FD} {x : Str} {p pos : Pos} {e : Expr} {es : List Expr} {M : List Nat} {ks : List Kind} {l : LF} {ds : List Value} {dvs : List V} {E : XK} {dd : List D}
theorem ve_makeD {n : Nat} (M0 : Mk X.K (G.cls c) f) (F0 : TA.FnG X.prog X.w X.K X.mg X.base CX0 k f fd ps (spV G [0] ro ps.length F)) (hg : X.A.guards = some []) (hr : Room (k + 1) X.A) (hgl : Gl X x) (hm : X.mg x = some (.ref (G.cls c))) (hb : Binds X.K fd ps ds) (hd : Vals dvs ds) (hD : ∀ H, RdsL G H dd dvs []) (hx : Passes CX0 X E) (ha : VL G X (e :: es) M ks l) (hn : ps.length = n := by rfl)
    (hdb : (x == ("__debug__" : Str)) = false := by decide) (he : starEach (e :: es) X.env = (false, eval e X.env) :: starEach es X.env := by rfl) (hpl : (backTo pos (starEach es X.env)).any (·.1) = false := by rfl) :
    VE G X (.Call (.Name x p) (e :: es) [] pos) M .own (ePrim (pMakeD n F c dd) l) :=
  PE.imp (pe_makeG M0 F0 hg hr hgl hm hb hd hx ha hdb he hpl) fun σ H Q h => by
    subst hn
    have P : PrimF G (fun vs H Q => rMake G ro ps.length F c E (vs ++ dvs) H Q) (pMakeD ps.length F c dd) := fun H vs ds F0 Q d tb r e q => prim_make H (vs ++ dvs) (ds ++ dd) (F0 ++ []) Q d tb (rdsL_app r (hD H)) e q
    obtain ⟨C, E0, Fs, R, ds, E1, e1, q⟩ := prim_own (ks := ks) P h
    exact ⟨C, E0, Fs, R, ds, E1, e1, fun vs H' Fs' FF a1 a2 a3 x dx nx ndx hne => q vs H' Fs' FF a1 a2 a3 x dx nx ndx hne⟩
theorem rds_dB (b : Bool) : ∀ H, RdsL G H [.bl b] [.bl b] [] := fun H => rdsL_cons.mpr ⟨_, [], [], [], rfl, rfl, rds_bl.mpr ⟨rfl, rfl⟩, rdsL_nil.mpr ⟨rfl, rfl⟩⟩
end
section
variable {P : Program} {w : World} {G : Gb} {mg : Str → Option Value} {b0 : Heap} {x qu : Str} {st : Stmt} {f : Addr} {fd : FuncData} {N : List Str} {k c : Nat}
theorem become_run {K : PySem.W.Frag} {p1 p2 : V} {H : Hp} {Q : VK} (hK : K = G.K) (cl : Cls G.K (G.cls c)) (n1 : NoAttr G.K (G.cls c) "before") (n2 : NoAttr G.K (G.cls c) "standing") (n3 : NoAttr G.K (G.cls c) "undone")
    (h : rBecome G c p1 [p2] H Q) : tSeq (tDrop (tBM K "list" rAppend (tFld K (tVar 0) "before") (tCons (tFld K (tVar 0) "standing") tNil))) (tSeq (sFld K (tVar 0) (tLst tNil) "undone") (sFld K (tVar 0) (tVar 1) "standing")) { nx := fun _ H' => Q .non H', rt := Q } [some p1, some p2] H := by
  subst hK
  obtain ⟨y, ey, a, dx, us, b, bs, s, _, rfl, h1, h2, h3, h4, h5, h6⟩ := h
  cases ey
  show tBM G.K "list" rAppend (tFld G.K (tVar 0) "before") (tCons (tFld G.K (tVar 0) "standing") tNil) [some (.ref a), some p2] H (fun _ H1 => _)
  refine ⟨.ref a, rfl, a, G.cls c, dx, us, .ref b, rfl, h1, cl, n1, h2, .inl ⟨rfl, bs, SqL.of h3⟩, .ref a, rfl, a, G.cls c, dx, us, s, rfl, h1, cl, n2, h5, b, bs, s, rfl, rfl, h3, h4, ?_⟩
  refine ⟨Nat.zero_le _, fun u hu => ?_⟩
  obtain ⟨y2, a2, dx2, fs2, e1, e2, g1, g2, h7⟩ := h6 u hu
  cases e1
  cases e2
  refine ⟨.ref a, rfl, a, G.cls c, dx2, fs2, rfl, g1, cl, n3, g2, ?_⟩
  obtain ⟨y3, a3, dx3, fs3, e1, e2, g3, g4, h8⟩ := h7
  cases e1
  cases e2
  exact ⟨p2, rfl, .ref a, rfl, a, G.cls c, dx3, fs3, rfl, g3, cl, n2, g4, h8⟩
theorem fnBecome {ps : List Str} (F : Fun G.K x qu st f fd) (Sc : FnScope N ps (defScope st)) (hN : N.length = 2) (hps : ps.length = 2) (cl : Cls G.K (G.cls c)) (n1 : NoAttr G.K (G.cls c) "before") (n2 : NoAttr G.K (G.cls c) "standing") (n3 : NoAttr G.K (G.cls c) "undone")
    (hb : ∀ (cd : Value) (B : Around) (ou : List PySem.Env) (s : Shared) (H : Hp) (E : XK), XOk G (cxOf CX0 P w G.K mg b0 N qu (defScope st) f cd B ou s H E).nox →
      PSs (cxOf CX0 P w G.K mg b0 N qu (defScope st) f cd B ou s H E).nox (defBody st) (tSeq (tDrop (tBM G.K "list" rAppend (tFld G.K (tVar 0) "before") (tCons (tFld G.K (tVar 0) "standing") tNil))) (tSeq (sFld G.K (tVar 0) (tLst tNil) "undone") (sFld G.K (tVar 0) (tVar 1) "standing")))) :
    TA.FnG P w G.K mg b0 CX0 (k + 1) f fd ps (spM 2 (rBecome G c)) :=
  TA.FunG.ok F Sc (fun vs H Q E h => by rw [hps]; exact h.1) fun cd B ou s H vs Q E hg hr h => ⟨_, hb cd B ou s H E ⟨rfl, rfl, show (B.deeper (envOfC qu (defScope st) s.heap.objs.size f cd)).units + 70 < cLine by have := hr.un; omega⟩, by
    obtain ⟨hl, x, xs, rfl, h⟩ := h
    match xs, hl with
    | [y], _ =>
      have est : start N [x, y] = [some x, some y] := by
        unfold L2.start
        rw [hN]
        rfl
      rw [est]
      exact become_run rfl cl n1 n2 n3 h⟩
end
end
end VL
set_option maxHeartbeats 4000000
namespace VL
open PySem PySem.Spec PyProof.Rows L2
open GxR (TabB Tabbed)
variable [LamT]
noncomputable section
abbrev rPopF (G : Gb) (c : Nat) (f g : Str) : V → List V → Hp → VK → Prop := fun x vs H Q => ∃ a dx us b bs s, vs = [] ∧ x = .ref a ∧ H a = some (.ins (G.cls c) dx us) ∧ us.length < 1000 ∧ us.lookup g = some (.ref b) ∧ H b = some (.lst bs) ∧ bs[bs.length - 1]? = some s ∧ b ≠ a ∧ Q .non (upd (upd H b (.lst bs.dropLast)) a (.ins (G.cls c) dx (putF f s us)))
def opPopF (c : Nat) (f g : Str) : OPD := fun sd ds => match sd, ds with
  | .obj c' ns es, [] => if c' = c then (if ns.length < 1000 then (match idxS f ns, idxS g ns with
    | some jf, some jg => (match es[jf]?, es[jg]? with
      | some .any, some (.lst xs) => (match xs[xs.length - 1]? with
        | some d => some (.obj c ns ((es.set jg (.lst xs.dropLast)).set jf d), .non)
        | none => none)
      | _, _ => none)
    | _, _ => none) else none) else none
  | _, _ => none
theorem putF_set {n : Str} {s : V} : ∀ {us : List (Str × V)} {j : Nat}, idxS n (us.map (·.1)) = some j → (putF n s us).map (·.1) = us.map (·.1) ∧ (putF n s us).map (·.2) = (us.map (·.2)).set j s
  | [], j, h => by cases h
  | (m, u) :: us, j, h => by
    have h : (if m = n then some 0 else (idxS n (us.map (·.1))).map (· + 1)) = some j := h
    by_cases z : m = n
    · rw [if_pos z] at h
      cases h
      have e1 : putF n s ((m, u) :: us) = (m, s) :: us := by show (if m = n then _ else _) = _; rw [if_pos z]
      rw [e1]
      exact ⟨rfl, rfl⟩
    · rw [if_neg z] at h
      obtain ⟨j', h', rfl⟩ := Option.map_eq_some_iff.mp h
      have e1 : putF n s ((m, u) :: us) = (m, u) :: putF n s us := by show (if m = n then _ else _) = _; rw [if_neg z]
      obtain ⟨h1, h2⟩ := putF_set (s := s) h'
      rw [e1]
      exact ⟨by rw [List.map_cons, h1]; rfl, by rw [List.map_cons, h2]; rfl⟩
section
variable {G : Gb}
theorem mut_popF {c : Nat} {f g : Str} : MutOk G (rPopF G c f g) (opPopF c f g) := fun H sd sv A ds vs B Q sd' res r1 r2 ndA ndB ap e ha q => by
  unfold opPopF at e
  split at e
  · rename_i c' ns es
    split at e
    · rename_i hc
      subst hc
      split at e
      · rename_i hlen
        split at e
        · rename_i jf jg ef eg
          split at e
          · rename_i xs e1 e2
            split at e
            · rename_i d e3
              cases e
              obtain ⟨a, dx, us, A0, rfl, h1, h2, h3, rfl⟩ := rds_obj.mp r1
              obtain ⟨rfl, rfl⟩ := rdsL_nil.mp r2
              subst h2
              have hne : jf ≠ jg := fun z => by rw [z, e2] at e1; cases e1
              obtain ⟨fv, A1, A2, A3, g1, g2, g3, g4, rfl⟩ := rdsL_split h3 e2
              obtain ⟨b, bs, Ab, rfl, g6, g7, rfl⟩ := rds_lst.mp g3
              have hlb : bs.length = xs.length := rdsL_len g7
              obtain ⟨s, Ax, Bd, Cx, k1, k2, k3, k4, rfl⟩ := rdsL_split g7 e3
              have xpos : xs.length ≠ 0 := fun z => by
                have := List.length_eq_zero_iff.mp z
                subst this
                simp at e3
              have eC : Cx = [] := by
                rw [show xs.length - 1 + 1 = xs.length by omega, List.drop_length] at k4
                exact (rdsL_nil.mp k4).2
              subst eC
              rw [show xs.take (xs.length - 1) = xs.dropLast from List.dropLast_eq_take.symm, ← hlb, show bs.take (bs.length - 1) = bs.dropLast from List.dropLast_eq_take.symm] at k2
              rw [← hlb] at k1
              rw [List.append_nil] at *
              rw [List.nodup_cons] at ndA
              obtain ⟨na, nd0⟩ := ndA
              have nb : b ≠ a := fun z => na (by simp [z])
              refine ⟨a, dx, us, b, bs, s, rfl, rfl, h1, by simpa using hlen, idxS_lookup eg g1, g6, k1, nb, ?_⟩
              have c1 : Chg (fun q => q = b) H (upd H b (.lst bs.dropLast)) := Chg.put g6 rfl rfl
              have h1' : upd H b (.lst bs.dropLast) a = some (.ins (G.cls c') dx us) := by rw [upd_ne (Ne.symm nb)]; exact h1
              have c2 : Chg (fun q => q = a) (upd H b (.lst bs.dropLast)) (upd (upd H b (.lst bs.dropLast)) a (.ins (G.cls c') dx (putF f s us))) := Chg.put h1' rfl rfl
              have c12 := c1.trans c2
              have nd1 := nd0
              rw [List.nodup_append] at nd1
              obtain ⟨n1, n2, n3⟩ := nd1
              rw [List.nodup_append] at n2
              obtain ⟨n4, n5, n6⟩ := n2
              rw [List.nodup_cons] at n4
              obtain ⟨n7, n8⟩ := n4
              have off : ∀ {l : List Addr}, (∀ z ∈ l, z ∈ A1 ++ (b :: (Ax ++ Bd) ++ A3)) → b ∉ l → ∀ z ∈ l, ¬ (z = b ∨ z = a) := fun hl hb z hz e => by
                rcases e with e | e
                · exact hb (e ▸ hz)
                · exact na (e ▸ hl z hz)
              have m1 : b ∉ A1 := fun z => n3 b z b (by simp) rfl
              have m3 : b ∉ A3 := fun z => n6 b (by simp) b z rfl
              have mx : b ∉ Ax := fun z => n7 (by simp [z])
              have md : b ∉ Bd := fun z => n7 (by simp [z])
              have rl := RdsL.chg c12 _ _ _ (off (fun z hz => by simp [hz]) mx) k2
              have rdd := Rds.chg c12 _ _ _ (off (fun z hz => by simp [hz]) md) k3
              have hb' : upd (upd H b (.lst bs.dropLast)) a (.ins (G.cls c') dx (putF f s us)) b = some (.lst bs.dropLast) := by rw [upd_ne nb, upd_same]
              have r1' := rdsL_join (d := .lst xs.dropLast) (List.getElem?_eq_some_iff.mp e2).1 (rdsL_len h3) g1 (RdsL.chg c12 _ _ _ (off (fun z hz => by simp [hz]) m1) g2) (rds_lst.mpr ⟨b, _, _, rfl, hb', rl, rfl⟩) (RdsL.chg c12 _ _ _ (off (fun z hz => by simp [hz]) m3) g4)
              have e1' : (es.set jg (.lst xs.dropLast))[jf]? = some .any := by rw [List.getElem?_set_ne (Ne.symm hne)]; exact e1
              obtain ⟨x0, X, B0, Y, w1, w2, w3, w4, w5⟩ := rdsL_split r1' e1'
              have eB0 : B0 = [] := by unfold Rds at w3; exact w3
              subst eB0
              rw [List.nil_append] at w5
              obtain ⟨p1, p2⟩ := putF_set (s := s) ef
              have lv := rdsL_len h3
              have ljf : jf < (us.map (·.2)).length := by
                rw [lv]; exact (List.getElem?_eq_some_iff.mp e1).1
              have rfin : RdsL G (upd (upd H b (.lst bs.dropLast)) a (.ins (G.cls c') dx (putF f s us))) ((es.set jg (.lst xs.dropLast)).set jf d) ((us.map (·.2)).set jf s) (X ++ (Bd ++ Y)) := by
                refine rdsL_join (x := s) (by rw [List.length_set]; exact (List.getElem?_eq_some_iff.mp e1).1) (by rw [List.length_set, List.length_set]; exact lv) (List.getElem?_set_self ljf) ?_ rdd ?_
                · rw [List.take_set_of_le (Nat.le_refl _)]; exact w2
                · rw [List.drop_set_of_lt (Nat.lt_succ_self _)]; exact w4
              have hp : (X ++ (Bd ++ Y)).Perm (A1 ++ (b :: (Ax ++ Bd) ++ A3)) := by
                have q1 : (X ++ (Bd ++ Y)).Perm (Bd ++ (X ++ Y)) := List.perm_append_comm_assoc X Bd Y
                refine q1.trans ?_
                rw [← w5]
                have q2 : (Bd ++ (A1 ++ (b :: Ax ++ A3))).Perm (A1 ++ (Bd ++ (b :: Ax ++ A3))) := List.perm_append_comm_assoc Bd A1 _
                refine q2.trans (List.Perm.append_left _ ?_)
                have q3 : b :: (Ax ++ Bd) ++ A3 = ((b :: Ax) ++ Bd) ++ A3 := by simp
                rw [q3, List.append_assoc]
                exact List.perm_append_comm_assoc Bd (b :: Ax) A3
              refine q .non _ (a :: (X ++ (Bd ++ Y))) (rds_obj.mpr ⟨a, dx, _, _, rfl, upd_same, p1, by rw [p2]; exact rfin, rfl⟩) (rds_non.mpr ⟨rfl, rfl⟩) ?_ (fun z hz => .inl ?_) (c12.mono fun q o _ h => ?_)
              · rw [List.nodup_cons]
                exact ⟨fun z => na (hp.mem_iff.mp z), hp.nodup_iff.mpr nd0⟩
              · rcases List.mem_cons.mp hz with rfl | hz
                · exact List.mem_cons_self
                · exact List.mem_cons_of_mem _ (hp.mem_iff.mp hz)
              · rcases h with h | h
                · rw [h]; simp
                · rw [h]; simp
            · cases e
          · cases e
        · cases e
      · cases e
    · cases e
  · cases e
end
def sPopF (i c : Nat) (f g : Str) : SF := fun E => match E[i]? with
  | some (some (m, sd)) => if m.w then (match opPopF c f g sd [] with
    | some (sd', .non) => some (.nx (E.set i (some (m, sd'))))
    | _ => none) else none
  | _ => none
theorem sPopF_ap (i c : Nat) (f g : Str) (E : Env) : sPopF i c f g E = (match E[i]? with
  | some (some (m, sd)) => if m.w then (match opPopF c f g sd [] with
    | some (sd', .non) => some (.nx (E.set i (some (m, sd'))))
    | _ => none) else none
  | _ => none) := rfl
section
variable {G : Gb} {X : Cx} {ro : Bool} {i c : Nat} {o o2 : Expr} {f g : Str} {p1 p2 pos apos cpos : Pos}
theorem vs_popF (x : XOk G X) (cl : Cls G.K (G.cls c)) (nf : NoAttr G.K (G.cls c) f) (ng : NoAttr G.K (G.cls c) g) (ho : PE X o (tVar i)) (ho2 : PE X o2 (tVar i))
    (hb2 : attributeBase o2 g X.env (eval o2 X.env) = eval o2 X.env := by rfl)
    (hbase : attributeBase (.Attribute o2 g p2) "pop" X.env (eval (.Attribute o2 g p2) X.env) = eval (.Attribute o2 g p2) X.env := by rfl)
    (hline : (apos.endLine == cpos.line) = true := by rfl)
    (hsw : swapsWith (.Call (.Attribute (.Attribute o2 g p2) "pop" apos) [] [] cpos) (some (.Attribute o f p1)) pos.line X.env = pure false := by rfl) :
    VS G X ro (.Assign [.Attribute o f p1] (.Call (.Attribute (.Attribute o2 g p2) "pop" apos) [] [] cpos) pos) (sPopF i c f g) :=
  PS.imp (ps_fld ho (pe_bm0 (r := rPop) PySem.F.plainAttrs_list PySem.F.slot_list_pop PySem.F.type_list_pop mt_pop (pe_fld ho2 hb2) hbase hline) hsw) fun N σ H ⟨C, E, Fs, R, out, e, q⟩ => by
    unfold sPopF at e
    split at e
    · rename_i m sd ei
      split at e
      · rename_i hw
        split at e
        · rename_i sd' eo
          cases e
          obtain ⟨v, hv, rv, _⟩ := R.rd i _ _ ei
          have z := slot_mut (Q := fun _ H' => N.nx σ H') mut_popF.n R ei hw hv (rdsL_nil.mpr ⟨rfl, rfl⟩) List.nodup_nil (fun a h => by cases h) eo rfl fun v3 H' Fs' R' _ => q σ H' Fs' R'
          obtain ⟨a, dx, us, b, bs, s, _, rfl, h1, h2, h3, h4, h5, h6, h7⟩ := z
          rw [← x.K] at cl nf ng
          refine ⟨.ref a, hv, a, G.cls c, dx, us, .ref b, rfl, h1, cl, ng, h3, .inl ⟨rfl, bs, SqL.of h4⟩, b, bs, s, rfl, rfl, h4, h5, .ref a, hv, a, G.cls c, dx, us, rfl, ?_, cl, nf, h2, h7⟩
          rw [upd_ne (Ne.symm h6)]
          exact h1
        · cases e
      · cases e
    · cases e
end
end
end VL
set_option maxHeartbeats 4000000
namespace VL
noncomputable section
open PySem PySem.Spec PyProof.Rows L2
open GxR (TabB Tabbed)
variable [LamT]
def tgL (g : D → Env → Option Env) (t : TF) (f : EF) : List D → Env → Option (List D)
  | [], _ => some []
  | d :: ds, E => match g d E with
    | none => none
    | some E1 => match t E1 with
      | none => none
      | some (false, _) => tgL g t f ds E
      | some (true, _) => match f E1 with
        | none => none
        | some (y, _) => (match tgL g t f ds E with
          | some ys => some (y :: ys)
          | none => none)
def eTupG1 (k : Kind) (src : IF) (g : Bool → D → Env → Option Env) (t : TF) (f : EF) (vs : List Nat) : EF := fun E => match src E with
  | some (ds, E1) => (match tgL (g (newAll E1 k.S)) t f ds (wipeE (freeze E1 k.S) vs) with
    | some ys => if sl (decide (ys.length ≤ sizeLine)) && D.atomL ys then some (.tup ys, E1) else none
    | none => none)
  | none => none
theorem eTupG1_ap (k : Kind) (src : IF) (g : Bool → D → Env → Option Env) (t : TF) (f : EF) (vs : List Nat) (E : Env) : eTupG1 k src g t f vs E = (match src E with
  | some (ds, E1) => (match tgL (g (newAll E1 k.S)) t f ds (wipeE (freeze E1 k.S) vs) with
    | some ys => if sl (decide (ys.length ≤ sizeLine)) && D.atomL ys then some (.tup ys, E1) else none
    | none => none)
  | none => none) := rfl
section
variable {G : Gb} {X : Cx}
theorem g1_of {M0 W vs : List Nat} {k ke : Kind} {src : IF} {g : Bool → D → Env → Option Env} {t : TF} {f : EF} {σ : L2.St} {H : Hp} {P : Addr} {Qc : List V → Hp → Prop}
    (hP : P ∈ G.tabs ∧ LamT.is P = false) (hW : ∀ i ∈ W, i ∈ vs) {C : Ctx} {E : Env} {Fs : Nat → List Addr} (R : Rel G C H σ E Fs) {ds : List D} {E' : Env} {ys : List D} (e1 : src E = some (ds, E')) (e2 : tgL (g (newAll E' k.S)) t f ds (wipeE (freeze E' k.S) vs) = some ys) (hlen : ys.length ≤ sizeLine) (hat : D.atomL ys = true)
    (q : ∀ out H' Fs', Rel G C H' σ E' Fs' → Stp M0 H H' E E' Fs Fs' → RdsL G H' ys out [] → Qc out H') :
    TA.tGx P (tVI G M0 k src) (fun v σ H Q => ∃ b, tVG G (.pr b) W (g b) v σ H Q) (tVT G [] t) (tV G [] ke f) vs σ H Qc := by
  refine ⟨C, E, Fs, R, ds, E', e1, fun J H1 Fs1 F R1 s1 it tr vw => ⟨(R1.tb P hP.1).1, fun H0 tbd => ?_⟩⟩
  have cT : Chg No H1 H0 := Chg.tabbed (R1.tb P hP.1) tbd hP.2
  have nwF := new_of R1 R.hn vw
  generalize newAll E' k.S = bb at e2 nwF
  have RL0 := R1.lock R.hn tr vw
  refine ⟨fun i m out Hc => m = ds.length - i ∧ i ≤ ds.length ∧ ∃ ysd rest, RdsL G Hc ysd out [] ∧ Chg No H1 Hc ∧ tgL (g bb) t f (ds.drop i) (wipeE (freeze E' k.S) vs) = some rest ∧ ys = ysd ++ rest,
    ⟨ds.length, by simp, Nat.zero_le _, [], ys, rdsL_nil.mpr ⟨rfl, rfl⟩, cT, e2, rfl⟩, ?_⟩
  rintro i m out Hc ⟨rfl, hi', ysd, rest, rdu, cc, e3, e4⟩
  have cF : Chg (fun a => a ∉ F) H1 Hc := cc.mono fun _ _ _ z => z.elim
  by_cases hlt : i < ds.length
  · refine .inr ⟨it.go Hc i cF hlt, fun out' Hn => i < ds.length ∧ ∃ ysd rest, RdsL G Hn ysd out' [] ∧ Chg No H1 Hn ∧ tgL (g bb) t f (ds.drop (i + 1)) (wipeE (freeze E' k.S) vs) = some rest ∧ ys = ysd ++ rest, fun out' Hn h => ⟨ds.length - (i + 1), by omega, rfl, h.1, h.2⟩, fun y H2 hy => ?_⟩
    obtain ⟨c3, dd, A, ed, rdA, hA⟩ := it.yl Hc i y H2 cF hlt hy
    have ed' : ds.drop i = dd :: ds.drop (i + 1) := by
      rw [List.drop_eq_getElem_cons hlt]
      rw [List.getElem?_eq_getElem hlt] at ed
      cases ed
      rfl
    rw [ed'] at e3
    unfold tgL at e3
    have cc2 : Chg No H1 H2 := (cc.trans c3).mono fun _ _ _ z => z.elim id id
    have Rc := (RL0.chg cc2).wipe vs
    cases eg : g bb dd (wipeE (freeze E' k.S) vs) with
    | none => rw [eg] at e3; cases e3
    | some E3 =>
      rw [eg] at e3
      dsimp only at e3
      refine ⟨bb, _, _, Fs1, H2, A, dd, Rc, Rc.hn, rdA, ⟨fun a ha => .inr (hA a ha), fun z a ha => nwF z a (hA a ha)⟩, E3, eg, fun σ3 Fs3 R3 b3 => ⟨wipe_eq b3.len b3.sg hW, ?_⟩⟩
      have rdu2 : RdsL G H2 ysd out [] := RdsL.chg c3 _ _ _ (fun _ ha => by cases ha) rdu
      cases et : t E3 with
      | none => rw [et] at e3; cases e3
      | some pt =>
        obtain ⟨tb, E4⟩ := pt
        rw [et] at e3
        refine ⟨_, E3, Fs3, R3, tb, E4, et, fun H4 Fs4 R4 s4 => ?_⟩
        have hE4 : E4 = E3 := s4.same (M := []) (by rw [R4.len, R3.len])
        subst hE4
        have cc4 : Chg No H1 H4 := (cc2.trans s4.no).mono fun _ _ _ z => z.elim id id
        have rdu4 : RdsL G H4 ysd out [] := RdsL.chg s4.no _ _ _ (fun _ ha => by cases ha) rdu2
        cases tb with
        | false =>
          dsimp only at e3
          exact ite_ff ⟨hlt, ysd, rest, rdu4, cc4, e3, e4⟩
        | true =>
          dsimp only at e3
          refine ite_tt ?_
          cases ef : f E4 with
          | none => rw [ef] at e3; cases e3
          | some py =>
            obtain ⟨de, E9⟩ := py
            rw [ef] at e3
            dsimp only at e3
            refine ⟨_, E4, Fs4, R4, de, E9, ef, fun v9 H9 Fs9 FF9 R9 s9 rr a9 => ?_⟩
            have cc9 : Chg No H1 H9 := (cc4.trans s9.no).mono fun _ _ _ z => z.elim id id
            have rdu9 : RdsL G H9 ysd out [] := RdsL.chg s9.no _ _ _ (fun _ ha => by cases ha) rdu4
            split at e3
            · rename_i ys' er
              cases e3
              have hya : de.atom = true := by
                rw [e4] at hat
                exact atomL_mem1 hat
              have eF9 := Rds.atom de v9 _ hya rr
              rw [eF9] at rr
              refine ⟨?_, hlt, ysd ++ [de], ys', rdsL_snoc0 rdu9 rr, cc9, er, by rw [e4]; simp⟩
              rw [rdsL_len rdu9]
              rw [e4] at hlen
              simp at hlen
              omega
            · cases e3
  · have ei : ds.drop i = [] := List.drop_eq_nil_of_le (by omega)
    rw [ei] at e3
    cases e3
    rw [List.append_nil] at e4
    subst e4
    refine .inl ⟨it.st Hc i cF (by omega), ?_⟩
    exact q out Hc Fs1 (R1.chg cc) ((s1.trans (Stp.of (M := []) cc)).mono fun i hi => by simpa using hi) rdu
end
end
end VL
set_option maxHeartbeats 4000000
namespace TA
open PySem PySem.Spec PyProof.Rows L2
open GxR (TabB TabG Tabbed)
section
variable {X : Cx}
theorem pgen_expR {k : Nat} {c P : Addr} {elt tg iter : Expr} {ifs : List Expr} {scope : Scope} {gpos : Pos} {own : List (Str × Nat)} {wi : TI} {g : TG} {tt : TT} {te : TE} (hr : Room k X.A) (hc : X.calm = true) (hN : X.N.Nodup) (TB : TabB X.base X.mg c P) (hcode : X.env.code = .ref c)
    (ok : GxOk X.N X.env.scope scope own) (hi : PI X tg iter wi)
    (hg : ∀ (A : Around) (s : Shared) (H : Hp) (C : Addr) (cd : Value) (fp : List Addr) (pn : List (Addr × Obj)), Room k A → PG (gxCx X A s H (gxEnv X scope C cd) fp pn) tg g)
    (ht : ∀ (A : Around) (s : Shared) (H : Hp) (C : Addr) (cd : Value) (fp : List Addr) (pn : List (Addr × Obj)), Room k A → PTs (gxCx X A s H (gxEnv X scope C cd) fp pn) ifs tt)
    (he : ∀ (A : Around) (s : Shared) (H : Hp) (C : Addr) (cd : Value) (fp : List Addr) (pn : List (Addr × Obj)), Room k A → PE (gxCx X A s H (gxEnv X scope C cd) fp pn) elt te)
    (hs : ∀ v, genFold iter X.env v = pure v := by intro _; rfl) : PGen X k (.GeneratorExp elt [⟨tg, iter, ifs, 0⟩] scope gpos) (tGx P wi g tt te (own.map (·.2))) E0 := by
  refine ⟨fun pins s σ H cont I h => ?_⟩
  have hfree : ∀ y ∈ scope.names, y.2 = .free → ∃ c, X.env.cells.lookup y.1 = some c := fun y hy e => by
    rcases ok.blk.free y hy e with k | k
    · exact I.ok.has _ (.inl k)
    · exact I.ok.has _ (.inr k)
  refine wpAny_GeneratorExp_make ok.co (closure_ok hfree) ok.cell ok.dot ok.blk.kind hr.depth ?_ hs
  refine thn (hi.run pins s σ H _ I h) fun xv s1 hx => thn hx fun itv s2 h2 => ?_
  obtain ⟨it, fp, tn, J, H2, e, I2, T, st2, f2, ⟨ps, hP, htr⟩, q⟩ := h2
  subst e
  refine ⟨I2.nolimit, ?_⟩
  have hPs : s2.heap.get? P = some { cls := .none, data := .fields ps } := I2.hok P _ hP
  have hPlt : P < s2.heap.objs.size := Heap.lt_size hPs
  have cd : PySem.W.CodeHd s2.heap c P := TB.code.keeps I2.bk
  have fpP : ∀ b ∈ fp, b ≠ P := fun b hb e => by
    have := (f2 b hb).1
    rw [e, hP] at this
    cases this
  have main : ∀ (code : Value) (h3 : Heap) (tk : Nat) (more : Array Value), Heap.ExtBut P s2.heap h3 → s2.heap.objs.size ≤ h3.objs.size → h3.get? P = some { cls := .none, data := .fields (ps ++ more) } → TriplesOk (ps ++ more).toList →
      wpAny (model X.prog X.w) X.A (builtinsFor X.env.globals X.env.builtins) (fun bi s₄ =>
        ∀ h', h'.Ns s₄.heap.objs.size (fun y => if y = ".0" then some (Value.ref it) else none) → Heap.SameBut s₄.heap.objs.size (s₄.heap.push { cls := .type "frame", data := .dict #[] }) h' →
          (∃ H1 sc ex, Inv X pins σ H1 sc ∧ ExOk X pins ex ∧ GMade X.prog X.w k X.stack H1 sc ex cont E0 (.ref h'.objs.size) { s₄ with
            gens := s₄.gens.push (.fresh (.compStart (.GeneratorExp elt [⟨tg, iter, ifs, 0⟩] scope gpos) 0 (.ref it) .none (genEnv scope (cloFrom X.env.cells scope.names []) s₄.heap.objs.size code bi X.env))),
            toks := s₄.toks + 1 + 1 + 1,
            heap := h'.push { cls := .type "generator", data := .fields #[.int s₄.gens.size 0, .str "<genexpr>" (s₄.toks + 1), .str (X.env.qual ++ "<genexpr>") (s₄.toks + 1 + 1)] } })) X.xe { s2 with heap := h3, toks := tk } := by
    intro code h3 tk more hx hsz hP3 ht3
    obtain ⟨bm, ob, e1, e2, e3, e4, e5, e6, e7, e8⟩ := TB.bm
    have keep3 : ∀ b u, b ≠ P → s2.heap.get? b = some u → h3.get? b = some u := fun b u hb e => hx b u hb e
    refine wpAny_builtinsFor (m := X.mg) (by rw [I2.ok.glob]; exact (I2.mod.glob.keeps I2.bk).extBut hx TB.gP) e1 e2 (keep3 _ _ e4 (I2.bk _ _ e5)) e6 e7 e8 ?_
    intro h' hn' hs'
    have Isc : Inv X pins σ (upd H2 P (.tbl (ps ++ more))) { s2 with heap := h3, toks := tk } := by
      have z := GxR.inv_tab (more := more) (h' := h3) (g' := s2.gens) (d' := s2.drawn) (t' := tk) I2 hP keep3 hP3 I2.bare
      exact z
    have tab : Tabbed P H2 (upd H2 P (.tbl (ps ++ more))) := ⟨⟨_, upd_same, ht3⟩, fun b hb => upd_ne hb⟩
    obtain ⟨W, ⟨m0, w0⟩, turn⟩ := q _ tab
    generalize hH1 : upd H2 P (.tbl (ps ++ more)) = H1 at Isc w0
    have fpn : ∀ b ∈ fp, H1 b = none := fun b hb => by rw [← hH1, upd_ne (fpP b hb)]; exact (f2 b hb).1
    have fsz : ∀ b ∈ fp, b < s2.heap.objs.size := fun b hb => by
      obtain ⟨o, e, _⟩ := T.obj _ _ st2 b hb
      exact Heap.lt_size e
    generalize hsc : ({ s2 with heap := h3, toks := tk } : Shared) = sc at Isc hn' hs' ⊢
    have hh3 : sc.heap = h3 := by rw [← hsc]
    have tn3 : tn 0 sc.heap := by
      rw [hh3]
      exact T.keep _ _ _ st2 fun b hb o e => keep3 b o (fpP b hb) e
    have hfp : ∀ b ∈ fp, FpOk X pins H1 b ∧ b < sc.heap.objs.size := fun b hb => ⟨⟨fpn b hb, (f2 b hb).2⟩, by rw [hh3]; exact Nat.lt_of_lt_of_le (fsz b hb) hsz⟩
    have hszp : h'.objs.size = sc.heap.objs.size + 1 := by rw [hs'.1, Heap.size_push]
    have keep' : ∀ b o, sc.heap.get? b = some o → h'.get? b = some o := fun b o e => hs'.extBut b o (Nat.ne_of_lt (Heap.lt_size e)) (Heap.get?_push_of_some _ e)
    generalize hgo : ({ cls := .type "generator", data := .fields #[.int sc.gens.size 0, .str "<genexpr>" (sc.toks + 1), .str (X.env.qual ++ "<genexpr>") (sc.toks + 1 + 1)] } : Obj) = go
    have hgt : (h'.push go).get? h'.objs.size = some go := by
      rw [← hgo]
      exact Heap.get?_push_size _ rfl
    have isg : ∀ {hh : Heap}, hh.get? h'.objs.size = some go → hh.IsGen h'.objs.size sc.gens.size := fun {hh} e => by
      rw [← hgo] at e
      exact ⟨_, _, _, e, rfl, rfl, rfl⟩
    refine ⟨H1, sc, fp, Isc, fun b hb => ⟨(hfp b hb).1.2.2.2.1, (hfp b hb).1.2.1, (hfp b hb).1.2.2.2.2.1, (hfp b hb).1.2.2.2.2.2⟩, ?_⟩
    refine ⟨h'.objs.size, sc.gens.size, _, rfl, by omega, by show _ < (h'.push go).objs.size; rw [Heap.size_push]; exact Nat.lt_succ_self _, isg hgt, Array.getElem?_push_size .., rfl, Isc.bare.push rfl, ?_, fun b o e => Heap.get?_push_of_some _ (keep' b o e), ?_⟩
    · exact Isc.nolimit.keeps fun b o e => Heap.get?_push_of_some _ (keep' b o e)
    · intro A S s9 hrA hfr hS hk9 ⟨c9, hS9⟩ hos9 hb9
      have hS' : h'.objs.size + 1 ≤ S := by
        have z : (h'.push go).objs.size ≤ S := hS
        rw [Heap.size_push] at z
        exact z
      have hSC : (sc.heap.objs.size : Nat) < S := by omega
      have haS : (h'.objs.size : Nat) < S := by omega
      have haC : (sc.heap.objs.size : Nat) < h'.objs.size := by omega
      have kp9 : ∀ b o, sc.heap.get? b = some o → s9.heap.get? b = some o := fun b o e => hk9 b o (Heap.get?_push_of_some _ (keep' b o e))
      have I9 := gx_start (A := A) (code := code) (itv := .ref it) (s2 := s9) (pn := [(h'.objs.size, go)]) (pw := [(S, lstObj #[] c9)]) Isc ok hN hfp hrA.hd hfr hos9 hb9
        ((hn'.push go).keeps fun b o e => hk9 b o e) kp9 (fun p hp => by
          rcases List.mem_append.mp hp with z | z
          · rw [List.mem_singleton.mp z]
            exact ⟨hk9 _ _ hgt, by show sc.heap.objs.size < h'.objs.size; omega, fun v e => by rw [← hgo] at e; cases e⟩
          · rw [List.mem_singleton.mp z]
            exact ⟨hS9, by show sc.heap.objs.size < S; omega, fun v e => by cases e⟩)
      have st9 : tn 0 s9.heap := T.keep _ _ _ tn3 fun b _ o e => kp9 b o e
      have loop := gx_loop (Y := gxCx X A sc H1 (gxEnv X scope sc.heap.objs.size code) fp [(h'.objs.size, go)]) (A := A) (elt := elt) (tg := tg) (iter := iter) (ifs := ifs) (scope := scope) (gpos := gpos) (S := S) (a := h'.objs.size) (gn := sc.gens.size) (E := E0)
        over_gx rfl rfl ok.co T (hg A sc H1 _ code fp _ hrA) (ht A sc H1 _ code fp _ hrA) (he A sc H1 _ code fp _ hrA)
        ⟨by show sc.heap.objs.size ≤ S; omega, Nat.ne_of_gt hSC, fun x c e z => by
          obtain ⟨w, zz⟩ := I9.cell x c e
          have e' : (cloFrom X.env.cells scope.names []).lookup x = some c := e
          rcases cloFrom_mem (PySem.mem_of_lookup e') with hm | ⟨h1, h2⟩
          · cases hm
          · obtain ⟨c', hc'⟩ := hfree _ h1 rfl
            have hc2 : X.env.cells.lookup x = some c' := hc'
            rw [hc2] at h2
            have h3 : c = c' := h2
            subst h3
            obtain ⟨w', z'⟩ := Isc.cell x c hc2
            have zl := z'.lt
            rw [z] at zl
            exact absurd (Nat.lt_trans hSC zl) (Nat.lt_irrefl _)⟩
        (fun p hp => by rw [List.mem_singleton.mp hp]; exact Nat.ne_of_lt haS) (fun b hb => Nat.ne_of_lt (Nat.lt_trans (hfp b hb).2 hSC)) (fun b hb => hb)
        (fun p hp b hb => by rw [List.mem_singleton.mp hp]; exact Nat.ne_of_gt (Nat.lt_trans (hfp b hb).2 haC))
        (fun {pins σ H s} J => isg (J.pin (h'.objs.size, go) (List.mem_append_left _ (List.mem_singleton.mpr rfl))).1) turn
        m0 0 [] sizeLine s9 s9 H1 (Nat.add_zero _) ⟨#[], c9, .nil, I9⟩ st9 fpn w0
      show Seg _ A _ _ _ s9 _ ((compStart (.GeneratorExp elt [⟨tg, iter, ifs, 0⟩] scope gpos) 0 (.ref it) .none (gxEnv X scope sc.heap.objs.size code)).onRaise (leaving (gxEnv X scope sc.heap.objs.size code))) [] s9
      unfold compStart
      rw [Sem.onRaise_eq_wrap]
      show Seg _ A _ _ _ s9 _ ((ask >>= _).wrap _ _ _ _) [] s9
      refine seg_bind_wrap (wpAny_askSetting ?_)
      split
      · exact seg_again rfl loop
      · first
          | exact seg_bind_wrap (wpAny_rule (seg_bind_wrap (wpAny_standAt (seg_bind_wrap (T.self _ 0 s9 _ _ st9 (seg_again rfl loop))))))
          | (refine seg_bind_wrap (wpAny_rule ?_); show Seg _ A _ _ _ s9 _ ((standAt iter.pos >>= _).wrap _ _ _ _) [] s9; exact seg_bind_wrap (wpAny_standAt (seg_bind_wrap (T.self _ 0 s9 _ _ st9 (seg_again rfl loop)))))
  cases hf : codeAmong gpos ps.toList with
  | none =>
    refine wpAny_genexprCodeX hcode (cd.code hPs htr) (cd.tab hPs) hf fun c' h' tk hx hge hlt hco' _ htab' _ => ?_
    obtain ⟨o1, vs, f1, tf, fl, tg', inF, tx, tt', op, _, _, _, _, _, _, _, _, _, htr', _⟩ := hco'
    exact main _ h' tk _ hx (Nat.le_trans hge (Nat.le_of_lt hlt)) htab'.2 htr'
  | some cv =>
    refine wpAny_genexprCode_hit hcode (cd.code hPs htr) hf ?_
    exact main cv s2.heap s2.toks #[] (Heap.ExtBut.refl _ _) (Nat.le_refl _) (by rw [Array.append_empty]; exact hPs) (by rw [Array.append_empty]; exact htr)
end
end TA
set_option maxHeartbeats 4000000
namespace VL
noncomputable section
open PySem PySem.Spec PyProof.Rows L2
open GxR (TabB Tabbed)
variable [LamT]
section
variable {G : Gb} {X : Cx} {n : Nat} {c P : Addr} {elt tg iter : Expr} {ifs : List Expr} {scope : Scope} {own : List (Str × Nat)} {p pos gpos : Pos} {M0 W : List Nat} {k ke : Kind} {src : IF} {g : Bool → D → Env → Option Env} {t : TF} {f : EF}
theorem ve_tupG1R (x : XOk G X) (hr : Room (n + 1) X.A) (hrn : Room n X.A) (TB : TabB X.base X.mg c P) (hP : P ∈ G.tabs ∧ LamT.is P = false) (hcode : X.env.code = .ref c) (hgl : Gl X "tuple") (hm : X.mg "tuple" = none) (hN : X.N.Nodup) (hi : VI G X tg iter M0 k src) (ok : TA.GxOk X.N X.env.scope scope own)
    (hg : ∀ (b : Bool) (A : Around) (s : Shared) (H : Hp) (C : Addr) (cd : Value) (fp : List Addr) (pn : List (Addr × Obj)), Room n A → VG G (TA.gxCx X A s H (TA.gxEnv X scope C cd) fp pn) tg (.pr b) W (g b))
    (ht : ∀ (A : Around) (s : Shared) (H : Hp) (C : Addr) (cd : Value) (fp : List Addr) (pn : List (Addr × Obj)), Room n A → VTs G (TA.gxCx X A s H (TA.gxEnv X scope C cd) fp pn) ifs [] t)
    (he : ∀ (A : Around) (s : Shared) (H : Hp) (C : Addr) (cd : Value) (fp : List Addr) (pn : List (Addr × Obj)), Room n A → VE G (TA.gxCx X A s H (TA.gxEnv X scope C cd) fp pn) elt [] ke f)
    (hW : ∀ i ∈ W, i ∈ own.map (·.2) := by decide) (hs : ∀ x, genFold iter X.env x = pure x := by intro _; rfl)
    (na : starEach [.GeneratorExp elt [⟨tg, iter, ifs, 0⟩] scope gpos] X.env = (false, eval (.GeneratorExp elt [⟨tg, iter, ifs, 0⟩] scope gpos) X.env) :: starEach [] X.env := by rfl) :
    VE G X (.Call (.Name "tuple" p) [.GeneratorExp elt [⟨tg, iter, ifs, 0⟩] scope gpos] [] pos) M0 .own (eTupG1 k src g t f (own.map (·.2))) :=
  PE.imp (TA.pe_tupGx (TA.pgen_expR hrn x.calm hN TB hcode ok hi (fun A s H C cd fp pn hrA => pg_ex fun b => hg b A s H C cd fp pn hrA) ht he hs) hr hgl hm na) fun σ H Q h => by
    obtain ⟨C, E, Fs, R, d, E', e, q⟩ := h
    unfold eTupG1 at e
    split at e
    · rename_i ds E1 e1
      split at e
      · rename_i ys e2
        split at e
        · rename_i hl
          rw [Bool.and_eq_true] at hl
          have hl' := sl_iff.mp hl.1
          cases e
          refine g1_of hP hW R e1 e2 hl' hl.2 fun out H' Fs' R' s' rd b hb => ?_
          have c2 : Chg No H' (upd H' b (.tup out)) := Chg.new hb
          refine q _ _ Fs' [] (R'.chg c2) ((s'.trans (Stp.of (M := []) c2)).mono fun i hi => by simpa using hi) (rds_tup.mpr ⟨b, _, rfl, SqT.of upd_same, RdsL.chg c2 _ _ _ (fun _ ha => by cases ha) rd⟩) ⟨by simp, fun z hz => by cases hz⟩
        · cases e
      · cases e
    · cases e
end
end
end VL
set_option maxHeartbeats 8000000
namespace VL
open PySem PySem.Spec PyProof.Rows L2
open GxR (TabB TabG Tabbed)
instance : LamT := ⟨fun a => false⟩
noncomputable section
def d_is_whole : SF := (sRet true .own (eAnd (ePrim (pIsi "int") (lCons (eVar 0) lNil)) (eNot (ePrim (pIsi "bool") (lCons (eVar 0) lNil)))))
def f_is_whole : FD := callD d_is_whole 1 []
def d_law_nth : SF := (sRet true (.vw [0]) (eIf (toT (ePrim pLt (lCons (eVar 1) (lCons (ePrim pLen (lCons (eVar 0) lNil)) lNil)))) (ePrim pIx (lCons (eVar 0) (lCons (eVar 1) lNil))) (eC (.int 0))))
def f_law_nth : FD := callD d_law_nth 2 []
def d_law_take : SF := (sSeq (sIf (toT (ePrim pGt (lCons (ePrim pIx (lCons (eVar 0) (lCons (eC (.int 0)) lNil))) (lCons (eC (.int 0)) lNil)))) (sSeq (sPairSet 0 (pName 0) (eC (.int 0)) 2 (ePrim pDivmod (lCons (ePrim pIx (lCons (eVar 0) (lCons (eC (.int 0)) lNil))) (lCons (eVar 1) lNil))))
  (sRet true (.sub 2) (eVar 2)))
  sNext)
  (sSeq (sSetIt 0 .own (ePrim pMod (lCons (ePrim pAdd (lCons (ePrim pMul (lCons (ePrim pIx (lCons (eVar 0) (lCons (eC (.int 1)) lNil))) (lCons (eC (.int 39373)) lNil))) (lCons (eC (.int 7919)) lNil))) (lCons (eC (.int 2147483629)) lNil))) (pName 0) (eC (.int 1)))
  (sRet true .own (ePrim pMod (lCons (ePrim pFdiv (lCons (ePrim pMod (lCons (ePrim pMul (lCons (ePrim pIx (lCons (eVar 0) (lCons (eC (.int 1)) lNil))) (lCons (ePrim pIx (lCons (eVar 0) (lCons (eC (.int 1)) lNil))) lNil))) (lCons (eC (.int 2147483563)) lNil))) (lCons (eC (.int 11)) lNil))) (lCons (eVar 1) lNil))))))
def f_law_take : FD := callD d_law_take 3 [0]
def d_law_settle : SF := (sIf (toT (ePrim (pIsN false) (lCons (eVar 2) (lCons (eC .non) lNil)))) (sDrop (eMut "dict" 0 (pName 0) [(.sub 1)] (lCons (eVar 1) lNil) opPopD))
  (sSetIt 0 (.sub 2) (eVar 2) (pName 0) (eVar 1)))
def f_law_settle : FD := callD d_law_settle 3 [0]
def d_law_ties_1 : EF := (ePrim pAddT (lCons (ePrim pTup (lCons (eVar 1) lNil)) (lCons (ePrim pIx (lCons (ePrim pIx (lCons (eVar 0) (lCons (eC (.int 2)) lNil))) (lCons (eVar 1) lNil))) lNil)))
def d_law_ties : SF := (sRet true (.top [0]) (eLc .own (iSeq (ePrim pSortedA (lCons (ePrim pIx (lCons (eVar 0) (lCons (eC (.int 2)) lNil))) lNil))) (fun b => (gSet (.pr b) 1)) tYesF d_law_ties_1 [1] []))
def f_law_ties : FD := callD d_law_ties 2 []
def d_m_Grove_back : SF := (sSeq (sIf (tfNot (toTr (ePrim (pFld 16 "before") (lCons (eVar 0) lNil)))) sNever
  sNext)
  (sSeq (sMvF 0 16 "undone" "standing")
  (sPopF 0 16 "standing" "before")))
def f_m_Grove_back : FD := callD d_m_Grove_back 1 [0]
def d_m_Grove_again : SF := (sSeq (sIf (tfNot (toTr (ePrim (pFld 16 "undone") (lCons (eVar 0) lNil)))) sNever
  sNext)
  (sSeq (sMvF 0 16 "before" "standing")
  (sPopF 0 16 "standing" "undone")))
def f_m_Grove_again : FD := callD d_m_Grove_again 1 [0]
def d_m_Grove_ties : SF := (sRet true (.top [0]) (ePrim pList (lCons (ePrim (pFld 16 "standing") (lCons (eVar 0) lNil)) lNil)))
def f_m_Grove_ties : FD := callD d_m_Grove_ties 1 []
def d_m_Grove_numbers_1 : EF := (eVar 3)
def d_m_Grove_numbers : SF := (sRet true (.top [0]) (eLc (.sub 0) (iSeq (ePrim (pFld 16 "standing") (lCons (eVar 0) lNil))) (fun b => (gTupE 4 (gsCons (gSet (.pr b) 3) (gsCons (gSet (.pr b) 1) (gsCons (gSet (.pr b) 2) (gsCons (gSet (.pr b) 4) gsNil)))))) tYesF d_m_Grove_numbers_1 [3, 1, 2, 4] []))
def f_m_Grove_numbers : FD := callD d_m_Grove_numbers 5 []
def d_is_place : SF := (sRet true .own (eAnd (eCall f_is_whole [] (lCons (eVar 1) lNil)) (eChain (fun i j => decide (i ≤ j)) (fun i j => decide (i < j)) (eC (.int 0)) (eVar 1) (eVar 0))))
def f_is_place : FD := callD d_is_place 2 []
def d_refuse_size : SF := (sIf (tfOr (tfNot (toTr (eCall f_is_whole [] (lCons (eVar 0) lNil)))) (tfNot (toT (eChain (fun i j => decide (i ≤ j)) (fun i j => decide (i ≤ j)) (eC (.int 1)) (eVar 0) (eC (.int 9)))))) sNever
  sNext)
def f_refuse_size : FD := callD d_refuse_size 1 []
def d_is_amount : SF := (sRet true .own (eAnd (eCall f_is_whole [] (lCons (eVar 0) lNil)) (ePrim pGe (lCons (eVar 0) (lCons (eC (.int 0)) lNil)))))
def f_is_amount : FD := callD d_is_amount 1 []
def d_law_pot : SF := (sSeq (sSet 2 .own (eCall f_law_nth [] (lCons (eVar 0) (lCons (eVar 1) lNil))))
  (sRet true .own (ePrim pLst (lCons (ePrim pMax (lCons (eC (.int 0)) (lCons (ePrim pSub (lCons (ePrim pAbs (lCons (eVar 2) lNil)) (lCons (ePrim pPow (lCons (eC (.int 10)) (lCons (eC (.int 18)) lNil))) lNil))) lNil))) (lCons (ePrim pAdd (lCons (ePrim pAdd (lCons (ePrim pMod (lCons (ePrim pAbs (lCons (eVar 2) lNil)) (lCons (eC (.int 2147483563)) lNil))) (lCons (ePrim pMul (lCons (eC (.int 101)) (lCons (eVar 1) lNil))) lNil))) (lCons (eC (.int 1)) lNil))) lNil)))))
def f_law_pot : FD := callD d_law_pot 3 []
def d_law_strength : SF := (sSeq (sSet 1 .own (eCall f_law_take [0] (lCons (eVar 0) (lCons (eC (.int 5)) lNil))))
  (sSeq (sSet 2 .own (ePrim pAdd (lCons (ePrim pMul (lCons (eCall f_law_take [0] (lCons (eVar 0) (lCons (ePrim pPow (lCons (eC (.int 10)) (lCons (eC (.int 9)) lNil))) lNil))) (lCons (ePrim pPow (lCons (eC (.int 10)) (lCons (eC (.int 51)) lNil))) lNil))) (lCons (eCall f_law_take [0] (lCons (eVar 0) (lCons (ePrim pPow (lCons (eC (.int 10)) (lCons (eC (.int 9)) lNil))) lNil))) lNil))))
  (sRet true (.vw [2]) (ePrim pIx (lCons (ePrim pLst (lCons (eC (.int 1)) (lCons (eCall f_law_take [0] (lCons (eVar 0) (lCons (eC (.int 4)) lNil))) (lCons (eCall f_law_take [0] (lCons (eVar 0) (lCons (eC (.int 12)) lNil))) (lCons (eVar 2) (lCons (eC (.int 0)) lNil)))))) (lCons (eVar 1) lNil))))))
def f_law_strength : FD := callD d_law_strength 3 [0]
def d_law_begun : SF := (sRet true .own (ePrim pLst (lCons (ePrim pAdd (lCons (eC (.int 1)) (lCons (eCall f_law_take [0] (lCons (eVar 0) (lCons (eVar 1) lNil))) lNil))) (lCons (ePrim (pEq false) (lCons (eCall f_law_take [0] (lCons (eVar 0) (lCons (eC (.int 2)) lNil))) (lCons (eC (.int 1)) lNil))) (lCons eDict0 (lCons (eC (.int 0)) (lCons (ePrim pLst lNil) (lCons (ePrim pLst lNil) lNil))))))))
def f_law_begun : FD := callD d_law_begun 2 [0]
def d_law_did : SF := (sSeq (sDrop (eMut "list" 0 (pSub1 0 (pName 0) (eC (.int 4))) [(.top [1, 0, 2])] (lCons (ePrim pTup (lCons (eVar 1) (lCons (ePrim pGet (lCons (ePrim pIx (lCons (eVar 0) (lCons (eC (.int 2)) lNil))) (lCons (eVar 1) lNil))) (lCons (eVar 2) lNil)))) lNil) opApp))
  (sSeq (sDrop (eMut "list" 0 (pSub1 0 (pName 0) (eC (.int 5))) [] lNil opClear))
  (sDrop (eCallF f_law_settle 0 [] (pSub1 0 (pName 0) (eC (.int 2))) [(eVar 1), (eVar 2)]))))
def f_law_did : FD := callD d_law_did 3 [0]
def d_law_gone_back : SF := (sSeq (sAsg (eMut "list" 1 (pSub1 1 (pName 1) (eC (.int 4))) [] lNil opPop) (gSeqE 3 (gsCons (gSet (.ex .own) 2) (gsCons (gSet (.ex .own) 3) (gsCons (gSet (.ex .own) 4) gsNil)))))
  (sSeq (sDrop (eMut "list" 1 (pSub1 1 (pName 1) (eC (.int 5))) [(.top [2, 3, 4])] (lCons (ePrim pTup (lCons (eVar 2) (lCons (eVar 3) (lCons (eVar 4) lNil)))) lNil) opApp))
  (sSeq (sDrop (eCallF f_law_settle 1 [] (pSub1 1 (pName 1) (eC (.int 2))) [(eVar 2), (eVar 3)]))
  (sRet true .own (ePrim (pIsN false) (lCons (eMethF f_m_Grove_back 0 16 "back" (pName 0) []) (lCons (eC .non) lNil)))))))
def f_law_gone_back : FD := callD d_law_gone_back 5 [0, 1]
def d_law_gone_on : SF := (sSeq (sAsg (eMut "list" 1 (pSub1 1 (pName 1) (eC (.int 5))) [] lNil opPop) (gSeqE 3 (gsCons (gSet (.ex .own) 2) (gsCons (gSet (.ex .own) 3) (gsCons (gSet (.ex .own) 4) gsNil)))))
  (sSeq (sDrop (eMut "list" 1 (pSub1 1 (pName 1) (eC (.int 4))) [(.top [2, 3, 4])] (lCons (ePrim pTup (lCons (eVar 2) (lCons (eVar 3) (lCons (eVar 4) lNil)))) lNil) opApp))
  (sSeq (sDrop (eCallF f_law_settle 1 [] (pSub1 1 (pName 1) (eC (.int 2))) [(eVar 2), (eVar 4)]))
  (sRet true .own (ePrim (pIsN false) (lCons (eMethF f_m_Grove_again 0 16 "again" (pName 0) []) (lCons (eC .non) lNil)))))))
def f_law_gone_on : FD := callD d_law_gone_on 5 [0, 1]
def d_law_stands : SF := (sSeq (sSet 2 .own (ePrim pReprX (lCons (eCall f_law_ties [] (lCons (eVar 1) lNil)) lNil)))
  (sSeq (sSet 3 .own (eMethR f_m_Grove_ties 16 "ties" (eVar 0) []))
  (sSeq (sSet 4 .own (eMethR f_m_Grove_ties 16 "ties" (eVar 0) []))
  (sSeq (sIf (tfOr (toT (ePrim (pEq true) (lCons (ePrim pReprX (lCons (eVar 3) lNil)) (lCons (eVar 2) lNil)))) (toT (ePrim (pEq true) (lCons (ePrim pReprX (lCons (eVar 4) lNil)) (lCons (eVar 2) lNil))))) (sRet true .own (eC (.bl false)))
  sNext)
  (sSeq (sDrop (eMut "list" 4 (pName 4) [.own] (lCons (ePrim pTup (lCons (ePrim pNeg (lCons (eC (.int 1)) lNil)) (lCons (eC (.int 0)) (lCons (eC (.int 0)) (lCons (eC (.int 0)) lNil))))) lNil) opApp))
  (sSeq (sDrop (eMut "list" 4 (pName 4) [] lNil opRev))
  (sSeq (sIf (tfOr (toT (ePrim (pEq true) (lCons (ePrim pReprX (lCons (eVar 3) lNil)) (lCons (eVar 2) lNil)))) (toT (ePrim (pEq true) (lCons (ePrim pReprX (lCons (eMethR f_m_Grove_ties 16 "ties" (eVar 0) []) lNil)) (lCons (eVar 2) lNil))))) (sRet true .own (eC (.bl false)))
  sNext)
  (sSeq (sDrop (eMut "list" 3 (pName 3) [.own] (lCons (ePrim pTup (lCons (ePrim pNeg (lCons (eC (.int 1)) lNil)) (lCons (eC (.int 0)) (lCons (eC (.int 0)) (lCons (eC (.int 0)) lNil))))) lNil) opApp))
  (sSeq (sDrop (eMut "list" 3 (pName 3) [] lNil opRev))
  (sRet true .own (ePrim (pEq false) (lCons (ePrim pReprX (lCons (eMethR f_m_Grove_ties 16 "ties" (eVar 0) []) lNil)) (lCons (eVar 2) lNil)))))))))))))
def f_law_stands : FD := callD d_law_stands 5 []
def d_m_Grove_laid_out_2 : EF := (ePrim pTup (lCons (eVar 1) (lCons (eVar 2) lNil)))
def d_m_Grove_laid_out : SF := (sRet true .own (ePrim pTup (lCons (eOwn (.sub 0) (ePrim (pFld 16 "places") (lCons (eVar 0) lNil))) (lCons (eTupG1 (.sub 0) (iSeq (ePrim (pFld 16 "standing") (lCons (eVar 0) lNil))) (fun b => (gTupE 4 (gsCons (gSet (.pr b) 3) (gsCons (gSet (.pr b) 1) (gsCons (gSet (.pr b) 2) (gsCons (gSet (.pr b) 4) gsNil)))))) tYesF d_m_Grove_laid_out_2 [3, 1, 2, 4]) lNil))))
def f_m_Grove_laid_out : FD := callD d_m_Grove_laid_out 5 []
def d_m_Grove_spot_of : SF := (sSeq (sSet 2 .own (eMethR f_m_Grove_numbers 16 "numbers" (eVar 0) []))
  (sSeq (sIf (tfOr (tfNot (toTr (eCall f_is_whole [] (lCons (eVar 1) lNil)))) (toT (ePrim (pIn true) (lCons (eVar 1) (lCons (eVar 2) lNil))))) sNever
  sNext)
  (sRet true .own (eIdx (eVar 2) (eVar 1)))))
def f_m_Grove_spot_of : FD := callD d_m_Grove_spot_of 3 []
def d_refuse_strength : SF := (sIf (tfNot (toTr (eCall f_is_amount [] (lCons (eVar 0) lNil)))) sNever
  sNext)
def f_refuse_strength : FD := callD d_refuse_strength 1 []
def d_refuse_place : SF := (sIf (tfNot (toTr (eCall f_is_place [] (lCons (ePrim pIx (lCons (eVar 0) (lCons (eC (.int 0)) lNil))) (lCons (eVar 1) lNil))))) sNever
  sNext)
def f_refuse_place : FD := callD d_refuse_place 2 []
def d_m_Grove_init : SF := (sSeq (sDrop (eCall f_refuse_size [] (lCons (eVar 1) lNil)))
  (sSeq (sSetF 0 16 "places" (.sub 1) (eVar 1) (pName 0))
  (sSeq (sSetF 0 16 "one_way" (.sub 2) (eVar 2) (pName 0))
  (sSeq (sSetF 0 16 "given" .own (eC (.int 0)) (pName 0))
  (sSeq (sSetF 0 16 "standing" .own (ePrim pLst lNil) (pName 0))
  (sSeq (sSetF 0 16 "before" .own (ePrim pLst lNil) (pName 0))
  (sSetF 0 16 "undone" .own (ePrim pLst lNil) (pName 0))))))))
def f_m_Grove_init : FD := callD d_m_Grove_init 3 [0]
def d_m_Grove_take : SF := (sSeq (sSet 2 .own (eMethR f_m_Grove_spot_of 16 "spot_of" (eVar 0) [(eVar 1)]))
  (sMethM 0 16 "become" (.top [0, 0]) (ePrim pAdd (lCons (eSlice (ePrim (pFld 16 "standing") (lCons (eVar 0) lNil)) oNone (oSome (eVar 2))) (lCons (eSlice (ePrim (pFld 16 "standing") (lCons (eVar 0) lNil)) (oSome (ePrim pAdd (lCons (eVar 2) (lCons (eC (.int 1)) lNil)))) oNone) lNil))) (opBecome 16)))
def f_m_Grove_take : FD := callD d_m_Grove_take 3 [0]
def d_refuse_two_places : SF := (sSeq (sDrop (eCall f_refuse_place [] (lCons (eVar 0) (lCons (eVar 1) lNil))))
  (sSeq (sDrop (eCall f_refuse_place [] (lCons (eVar 0) (lCons (eVar 2) lNil))))
  (sIf (toT (ePrim (pEq false) (lCons (eVar 1) (lCons (eVar 2) lNil)))) sNever
  sNext)))
def f_refuse_two_places : FD := callD d_refuse_two_places 3 []
def d_m_Grove_strengthen : SF := (sSeq (sSet 3 .own (eMethR f_m_Grove_spot_of 16 "spot_of" (eVar 0) [(eVar 1)]))
  (sSeq (sDrop (eCall f_refuse_strength [] (lCons (eVar 2) lNil)))
  (sSeq (sSet 4 (.top [0]) (ePrim pList (lCons (ePrim (pFld 16 "standing") (lCons (eVar 0) lNil)) lNil)))
  (sSeq (sSetIt 4 (.top [4, 2]) (ePrim pAddT (lCons (eSlice (ePrim pIx (lCons (eVar 4) (lCons (eVar 3) lNil))) oNone (oSome (eC (.int 3)))) (lCons (ePrim pTup (lCons (eVar 2) lNil)) lNil))) (pName 4) (eVar 3))
  (sMethV 0 16 "become" 4 (opBecome 16))))))
def f_m_Grove_strengthen : FD := callD d_m_Grove_strengthen 5 [0]
def d_law_made : SF := (sSeq (sIf (tfAnd (tfNot (toTr (ePrim pIx (lCons (eVar 1) (lCons (eC (.int 1)) lNil))))) (toT (ePrim (pEq false) (lCons (eCall f_law_take [0] (lCons (eVar 0) (lCons (eC (.int 2)) lNil))) (lCons (eC (.int 0)) lNil))))) (sRet true .own (ePrim (pMakeD 3 f_m_Grove_init 16 [(D.bl false)]) (lCons (ePrim pIx (lCons (eVar 1) (lCons (eC (.int 0)) lNil))) lNil)))
  sNext)
  (sRet true .own (ePrim (pMake 3 f_m_Grove_init 16) (lCons (ePrim pIx (lCons (eVar 1) (lCons (eC (.int 0)) lNil))) (lCons (ePrim pIx (lCons (eVar 1) (lCons (eC (.int 1)) lNil))) lNil)))))
def f_law_made : FD := callD d_law_made 2 [0]
def d_m_Grove_put : SF := (sSeq (sDrop (eCall f_refuse_two_places [] (lCons (eMethR f_m_Grove_laid_out 16 "laid_out" (eVar 0) []) (lCons (eVar 1) (lCons (eVar 2) lNil)))))
  (sSeq (sDrop (eCall f_refuse_strength [] (lCons (eVar 3) lNil)))
  (sSeq (sIf (toT (ePrim pGe (lCons (ePrim pLen (lCons (ePrim (pFld 16 "standing") (lCons (eVar 0) lNil)) lNil)) (lCons (eIf (toTr (ePrim (pFld 16 "one_way") (lCons (eVar 0) lNil))) (eC (.int 60)) (eC (.int 30))) lNil)))) sNever
  sNext)
  (sSeq (sSet 4 (.sub 0) (ePrim (pFld 16 "given") (lCons (eVar 0) lNil)))
  (sSeq (sAugF (fun i j => i + j) 0 16 "given" (eC (.int 1)))
  (sSeq (sSet 5 (.top [1, 2]) (eIf (toTr (ePrim (pFld 16 "one_way") (lCons (eVar 0) lNil))) (ePrim pTup (lCons (eVar 1) (lCons (eVar 2) lNil))) (ePrim pTup (lCons (ePrim pMin (lCons (eVar 1) (lCons (eVar 2) lNil))) (lCons (ePrim pMax (lCons (eVar 1) (lCons (eVar 2) lNil))) lNil)))))
  (sSeq (sMethM 0 16 "become" (.top [0, 4, 5, 5, 3]) (ePrim pAdd (lCons (ePrim (pFld 16 "standing") (lCons (eVar 0) lNil)) (lCons (ePrim pLst (lCons (ePrim pTup (lCons (eVar 4) (lCons (ePrim pIx (lCons (eVar 5) (lCons (eC (.int 0)) lNil))) (lCons (ePrim pIx (lCons (eVar 5) (lCons (eC (.int 1)) lNil))) (lCons (eVar 3) lNil))))) lNil)) lNil))) (opBecome 16))
  (sRet true (.sub 4) (eVar 4)))))))))
def f_m_Grove_put : FD := callD d_m_Grove_put 6 [0]
def d_law_put : SF := (sSeq (sSet 3 .own (eCall f_law_take [0] (lCons (eVar 0) (lCons (ePrim pIx (lCons (eVar 2) (lCons (eC (.int 0)) lNil))) lNil))))
  (sSeq (sSet 4 .own (ePrim pMod (lCons (ePrim pAdd (lCons (ePrim pAdd (lCons (eVar 3) (lCons (eC (.int 1)) lNil))) (lCons (eCall f_law_take [0] (lCons (eVar 0) (lCons (ePrim pSub (lCons (ePrim pIx (lCons (eVar 2) (lCons (eC (.int 0)) lNil))) (lCons (eC (.int 1)) lNil))) lNil))) lNil))) (lCons (ePrim pIx (lCons (eVar 2) (lCons (eC (.int 0)) lNil))) lNil))))
  (sSeq (sSet 5 .own (eCall f_law_strength [0] (lCons (eVar 0) lNil)))
  (sSeq (sSet 6 .own (eMethF f_m_Grove_put 1 16 "put" (pName 1) [(eVar 3), (eVar 4), (eVar 5)]))
  (sSeq (sIf (tfNot (toTr (ePrim pIx (lCons (eVar 2) (lCons (eC (.int 1)) lNil))))) (sPar2 3 4 (lCons (ePrim pMin (lCons (eVar 3) (lCons (eVar 4) lNil))) (lCons (ePrim pMax (lCons (eVar 3) (lCons (eVar 4) lNil))) lNil)))
  sNext)
  (sSeq (sDrop (eCall f_law_did [2] (lCons (eVar 2) (lCons (eOwn (.sub 2) (ePrim pIx (lCons (eVar 2) (lCons (eC (.int 3)) lNil)))) (lCons (ePrim pTup (lCons (eVar 3) (lCons (eVar 4) (lCons (eVar 5) lNil)))) lNil)))))
  (sSeq (sAugIt (fun i j => i + j) 2 (eC (.int 3)) (eC (.int 1)))
  (sRet true .own (ePrim (pEq false) (lCons (ePrim pReprX (lCons (eVar 6) lNil)) (lCons (ePrim pReprX (lCons (ePrim pSub (lCons (ePrim pIx (lCons (eVar 2) (lCons (eC (.int 3)) lNil))) (lCons (eC (.int 1)) lNil))) lNil)) lNil)))))))))))
def f_law_put : FD := callD d_law_put 7 [0, 1, 2]
def d_law_deed : SF := (sSeq (sSet 4 .own (eCall f_law_take [0] (lCons (eVar 0) (lCons (eC (.int 9)) lNil))))
  (sSeq (sSet 5 .own (ePrim pSortedA (lCons (ePrim pIx (lCons (eVar 2) (lCons (eC (.int 2)) lNil))) lNil)))
  (sSeq (sIf (tfAnd (toT (ePrim (pEq false) (lCons (eVar 4) (lCons (eC (.int 0)) lNil)))) (toT (ePrim (pEq true) (lCons (ePrim pIx (lCons (eVar 2) (lCons (eC (.int 4)) lNil))) (lCons (ePrim pLst lNil) lNil))))) (sRet true .own (eCall f_law_gone_back [1, 2] (lCons (eVar 1) (lCons (eVar 2) lNil))))
  sNext)
  (sSeq (sIf (tfAnd (toT (ePrim (pEq false) (lCons (eVar 4) (lCons (eC (.int 1)) lNil)))) (toT (ePrim (pEq true) (lCons (ePrim pIx (lCons (eVar 2) (lCons (eC (.int 5)) lNil))) (lCons (ePrim pLst lNil) lNil))))) (sRet true .own (eCall f_law_gone_on [1, 2] (lCons (eVar 1) (lCons (eVar 2) lNil))))
  sNext)
  (sSeq (sIf (tfOr (toT (ePrim (pEq false) (lCons (eVar 5) (lCons (ePrim pLst lNil) lNil)))) (tfAnd (toT (ePrim pGt (lCons (eVar 4) (lCons (eC (.int 4)) lNil)))) (toT (ePrim pLt (lCons (ePrim pLen (lCons (eVar 5) lNil)) (lCons (eVar 3) lNil)))))) (sRet true .own (eOr (ePrim (pEq false) (lCons (ePrim pIx (lCons (eVar 2) (lCons (eC (.int 0)) lNil))) (lCons (eC (.int 1)) lNil))) (eCall f_law_put [0, 1, 2] (lCons (eVar 0) (lCons (eVar 1) (lCons (eVar 2) lNil))))))
  sNext)
  (sSeq (sSet 6 (.sub 5) (ePrim pIx (lCons (eVar 5) (lCons (eCall f_law_take [0] (lCons (eVar 0) (lCons (ePrim pLen (lCons (eVar 5) lNil)) lNil))) lNil))))
  (sSeq (sIf (toT (ePrim (pEq false) (lCons (ePrim pMod (lCons (eVar 4) (lCons (eC (.int 2)) lNil))) (lCons (eC (.int 0)) lNil)))) (sSeq (sDrop (eCall f_law_did [2] (lCons (eVar 2) (lCons (eVar 6) (lCons (eC .non) lNil)))))
  (sRet true .own (ePrim (pIsN false) (lCons (eMethF f_m_Grove_take 1 16 "take" (pName 1) [(eVar 6)]) (lCons (eC .non) lNil)))))
  sNext)
  (sSeq (sAsg (ePrim pIx (lCons (ePrim pIx (lCons (eVar 2) (lCons (eC (.int 2)) lNil))) (lCons (eVar 6) lNil))) (gSeqE 3 (gsCons (gSet (.ex (.sub 2)) 7) (gsCons (gSet (.ex (.sub 2)) 8) (gsCons (gSet (.ex (.sub 2)) 9) gsNil)))))
  (sSeq (sSet 10 (.vw [9]) (ePrim pIx (lCons (ePrim pLst (lCons (eVar 9) (lCons (eCall f_law_strength [0] (lCons (eVar 0) lNil)) lNil))) (lCons (ePrim pInt (lCons (ePrim pGt (lCons (eCall f_law_take [0] (lCons (eVar 0) (lCons (eC (.int 4)) lNil))) (lCons (eC (.int 0)) lNil))) lNil)) lNil))))
  (sSeq (sDrop (eCall f_law_did [2] (lCons (eVar 2) (lCons (eVar 6) (lCons (ePrim pTup (lCons (eVar 7) (lCons (eVar 8) (lCons (eVar 10) lNil)))) lNil)))))
  (sRet true .own (ePrim (pIsN false) (lCons (eMethF f_m_Grove_strengthen 1 16 "strengthen" (pName 1) [(eVar 6), (eVar 10)]) (lCons (eC .non) lNil))))))))))))))
def f_law_deed : FD := callD d_law_deed 11 [1, 2, 0]
def d_law_1 : SF := (sIf (tfOr (tfNot (toTr (eCallT f_law_deed [3, 2] (lCons (eCall f_law_pot [] (lCons (eVar 0) (lCons (eVar 4) lNil))) (lCons (eVar 3) (lCons (eVar 2) (lCons (ePrim pIx (lCons (ePrim pLst (lCons (eC (.int 30)) (lCons (eC (.int 60)) lNil))) (lCons (ePrim pInt (lCons (ePrim pIx (lCons (eVar 2) (lCons (eC (.int 1)) lNil))) lNil)) lNil))) lNil))))))) (tfNot (toTr (eCall f_law_stands [] (lCons (eVar 3) (lCons (eVar 2) lNil)))))) (sRet true .own (eC (.bl false)))
  sNext)
def d_law : SF := (sSeq (sSet 1 .own (eCall f_law_pot [] (lCons (eVar 0) (lCons (eC (.int 0)) lNil))))
  (sSeq (sSet 2 .own (eCall f_law_begun [1] (lCons (eVar 1) (lCons (eC (.int 9)) lNil))))
  (sSeq (sSet 3 .own (eCall f_law_made [1] (lCons (eVar 1) (lCons (eVar 2) lNil))))
  (sSeq (sIf (tfNot (toTr (eCall f_law_stands [] (lCons (eVar 3) (lCons (eVar 2) lNil))))) (sRet true .own (eC (.bl false)))
  sNext)
  (sSeq (sFor .own (iRg (rg2 (eC (.int 1)) (ePrim pMax (lCons (eC (.int 7)) (lCons (ePrim pMin (lCons (eC (.int 49)) (lCons (ePrim pLen (lCons (eVar 0) lNil)) lNil))) lNil))))) (fun b => (gSet (.pr b) 4)) d_law_1)
  (sRet true .own (eC (.bl true))))))))
def f_law : FD := callD d_law 5 []
end
end VL
set_option maxHeartbeats 8000000
namespace VL
open PySem PySem.Spec PyProof.Rows L2
open GxR (TabB TabG Tabbed)
def topS (i : Nat) : Stmt := PySem.Challenge.pw_treesapart_k81_numbers_kept.main.body.getD i (.Pass ⟨0, 0, 0, 0⟩)
abbrev s_is_whole : Stmt := topS 13
abbrev s_is_place : Stmt := topS 14
abbrev s_refuse_size : Stmt := topS 15
abbrev s_is_amount : Stmt := topS 17
abbrev s_refuse_strength : Stmt := topS 18
abbrev s_refuse_place : Stmt := topS 19
abbrev s_refuse_two_places : Stmt := topS 20
abbrev s_law_nth : Stmt := topS 24
abbrev s_law_pot : Stmt := topS 25
abbrev s_law_take : Stmt := topS 26
abbrev s_law_strength : Stmt := topS 27
abbrev s_law_begun : Stmt := topS 28
abbrev s_law_settle : Stmt := topS 29
abbrev s_law_did : Stmt := topS 30
abbrev s_law_put : Stmt := topS 31
abbrev s_law_gone_back : Stmt := topS 32
abbrev s_law_gone_on : Stmt := topS 33
abbrev s_law_deed : Stmt := topS 34
abbrev s_law_ties : Stmt := topS 35
abbrev s_law_made : Stmt := topS 36
abbrev s_law_stands : Stmt := topS 37
abbrev s_law : Stmt := topS 38
def clsBody (s : Stmt) : List Stmt := match s with
  | .ClassDef _ _ _ b _ _ _ _ _ _ _ => b
  | _ => []
abbrev s_m_Grove_init : Stmt := (clsBody (topS 22)).getD 0 (.Pass ⟨0, 0, 0, 0⟩)
abbrev s_m_Grove_put : Stmt := (clsBody (topS 22)).getD 1 (.Pass ⟨0, 0, 0, 0⟩)
abbrev s_m_Grove_take : Stmt := (clsBody (topS 22)).getD 2 (.Pass ⟨0, 0, 0, 0⟩)
abbrev s_m_Grove_strengthen : Stmt := (clsBody (topS 22)).getD 3 (.Pass ⟨0, 0, 0, 0⟩)
abbrev s_m_Grove_become : Stmt := (clsBody (topS 22)).getD 4 (.Pass ⟨0, 0, 0, 0⟩)
abbrev s_m_Grove_back : Stmt := (clsBody (topS 22)).getD 5 (.Pass ⟨0, 0, 0, 0⟩)
abbrev s_m_Grove_again : Stmt := (clsBody (topS 22)).getD 6 (.Pass ⟨0, 0, 0, 0⟩)
abbrev s_m_Grove_ties : Stmt := (clsBody (topS 22)).getD 7 (.Pass ⟨0, 0, 0, 0⟩)
abbrev s_m_Grove_laid_out : Stmt := (clsBody (topS 22)).getD 11 (.Pass ⟨0, 0, 0, 0⟩)
abbrev s_m_Grove_numbers : Stmt := (clsBody (topS 22)).getD 13 (.Pass ⟨0, 0, 0, 0⟩)
abbrev s_m_Grove_spot_of : Stmt := (clsBody (topS 22)).getD 14 (.Pass ⟨0, 0, 0, 0⟩)
structure Fx (G : Gb) (mg : Str → Option Value) (b0 : Heap) where
  a_is_whole : Addr
  fd_is_whole : FuncData
  F_is_whole : Fun G.K "is_whole" "is_whole" s_is_whole a_is_whole fd_is_whole
  b_is_whole : Binds G.K fd_is_whole ["thing"] []
  g_is_whole : mg "is_whole" = some (.ref a_is_whole)
  a_is_place : Addr
  fd_is_place : FuncData
  F_is_place : Fun G.K "is_place" "is_place" s_is_place a_is_place fd_is_place
  b_is_place : Binds G.K fd_is_place ["places", "thing"] []
  g_is_place : mg "is_place" = some (.ref a_is_place)
  a_refuse_size : Addr
  fd_refuse_size : FuncData
  F_refuse_size : Fun G.K "refuse_size" "refuse_size" s_refuse_size a_refuse_size fd_refuse_size
  b_refuse_size : Binds G.K fd_refuse_size ["places"] []
  g_refuse_size : mg "refuse_size" = some (.ref a_refuse_size)
  a_is_amount : Addr
  fd_is_amount : FuncData
  F_is_amount : Fun G.K "is_amount" "is_amount" s_is_amount a_is_amount fd_is_amount
  b_is_amount : Binds G.K fd_is_amount ["thing"] []
  g_is_amount : mg "is_amount" = some (.ref a_is_amount)
  a_refuse_strength : Addr
  fd_refuse_strength : FuncData
  F_refuse_strength : Fun G.K "refuse_strength" "refuse_strength" s_refuse_strength a_refuse_strength fd_refuse_strength
  b_refuse_strength : Binds G.K fd_refuse_strength ["thing"] []
  g_refuse_strength : mg "refuse_strength" = some (.ref a_refuse_strength)
  a_refuse_place : Addr
  fd_refuse_place : FuncData
  F_refuse_place : Fun G.K "refuse_place" "refuse_place" s_refuse_place a_refuse_place fd_refuse_place
  b_refuse_place : Binds G.K fd_refuse_place ["web", "thing"] []
  g_refuse_place : mg "refuse_place" = some (.ref a_refuse_place)
  a_refuse_two_places : Addr
  fd_refuse_two_places : FuncData
  F_refuse_two_places : Fun G.K "refuse_two_places" "refuse_two_places" s_refuse_two_places a_refuse_two_places fd_refuse_two_places
  b_refuse_two_places : Binds G.K fd_refuse_two_places ["web", "a", "b"] []
  g_refuse_two_places : mg "refuse_two_places" = some (.ref a_refuse_two_places)
  a_law_nth : Addr
  fd_law_nth : FuncData
  F_law_nth : Fun G.K "_law_nth" "_law_nth" s_law_nth a_law_nth fd_law_nth
  b_law_nth : Binds G.K fd_law_nth ["_law_script", "_law_k"] []
  g_law_nth : mg "_law_nth" = some (.ref a_law_nth)
  a_law_pot : Addr
  fd_law_pot : FuncData
  F_law_pot : Fun G.K "_law_pot" "_law_pot" s_law_pot a_law_pot fd_law_pot
  b_law_pot : Binds G.K fd_law_pot ["_law_script", "_law_k"] []
  g_law_pot : mg "_law_pot" = some (.ref a_law_pot)
  a_law_take : Addr
  fd_law_take : FuncData
  F_law_take : Fun G.K "_law_take" "_law_take" s_law_take a_law_take fd_law_take
  b_law_take : Binds G.K fd_law_take ["_law_pot_here", "_law_many"] []
  g_law_take : mg "_law_take" = some (.ref a_law_take)
  a_law_strength : Addr
  fd_law_strength : FuncData
  F_law_strength : Fun G.K "_law_strength" "_law_strength" s_law_strength a_law_strength fd_law_strength
  b_law_strength : Binds G.K fd_law_strength ["_law_pot_here"] []
  g_law_strength : mg "_law_strength" = some (.ref a_law_strength)
  a_law_begun : Addr
  fd_law_begun : FuncData
  F_law_begun : Fun G.K "_law_begun" "_law_begun" s_law_begun a_law_begun fd_law_begun
  b_law_begun : Binds G.K fd_law_begun ["_law_pot_here", "_law_most"] []
  g_law_begun : mg "_law_begun" = some (.ref a_law_begun)
  a_law_settle : Addr
  fd_law_settle : FuncData
  F_law_settle : Fun G.K "_law_settle" "_law_settle" s_law_settle a_law_settle fd_law_settle
  b_law_settle : Binds G.K fd_law_settle ["_law_stand", "_law_number", "_law_tie"] []
  g_law_settle : mg "_law_settle" = some (.ref a_law_settle)
  a_law_did : Addr
  fd_law_did : FuncData
  F_law_did : Fun G.K "_law_did" "_law_did" s_law_did a_law_did fd_law_did
  b_law_did : Binds G.K fd_law_did ["_law_state", "_law_number", "_law_tie"] []
  g_law_did : mg "_law_did" = some (.ref a_law_did)
  a_law_put : Addr
  fd_law_put : FuncData
  F_law_put : Fun G.K "_law_put" "_law_put" s_law_put a_law_put fd_law_put
  b_law_put : Binds G.K fd_law_put ["_law_pot_here", "_law_grove", "_law_state"] []
  g_law_put : mg "_law_put" = some (.ref a_law_put)
  a_law_gone_back : Addr
  fd_law_gone_back : FuncData
  F_law_gone_back : Fun G.K "_law_gone_back" "_law_gone_back" s_law_gone_back a_law_gone_back fd_law_gone_back
  b_law_gone_back : Binds G.K fd_law_gone_back ["_law_grove", "_law_state"] []
  g_law_gone_back : mg "_law_gone_back" = some (.ref a_law_gone_back)
  a_law_gone_on : Addr
  fd_law_gone_on : FuncData
  F_law_gone_on : Fun G.K "_law_gone_on" "_law_gone_on" s_law_gone_on a_law_gone_on fd_law_gone_on
  b_law_gone_on : Binds G.K fd_law_gone_on ["_law_grove", "_law_state"] []
  g_law_gone_on : mg "_law_gone_on" = some (.ref a_law_gone_on)
  a_law_deed : Addr
  fd_law_deed : FuncData
  F_law_deed : Fun G.K "_law_deed" "_law_deed" s_law_deed a_law_deed fd_law_deed
  b_law_deed : Binds G.K fd_law_deed ["_law_pot_here", "_law_grove", "_law_state", "_law_most"] []
  g_law_deed : mg "_law_deed" = some (.ref a_law_deed)
  a_law_ties : Addr
  fd_law_ties : FuncData
  F_law_ties : Fun G.K "_law_ties" "_law_ties" s_law_ties a_law_ties fd_law_ties
  b_law_ties : Binds G.K fd_law_ties ["_law_state"] []
  g_law_ties : mg "_law_ties" = some (.ref a_law_ties)
  a_law_made : Addr
  fd_law_made : FuncData
  F_law_made : Fun G.K "_law_made" "_law_made" s_law_made a_law_made fd_law_made
  b_law_made : Binds G.K fd_law_made ["_law_pot_here", "_law_state"] []
  g_law_made : mg "_law_made" = some (.ref a_law_made)
  a_law_stands : Addr
  fd_law_stands : FuncData
  F_law_stands : Fun G.K "_law_stands" "_law_stands" s_law_stands a_law_stands fd_law_stands
  b_law_stands : Binds G.K fd_law_stands ["_law_grove", "_law_state"] []
  g_law_stands : mg "_law_stands" = some (.ref a_law_stands)
  a_law : Addr
  fd_law : FuncData
  F_law : Fun G.K "law" "law" s_law a_law fd_law
  b_law : Binds G.K fd_law ["_law_script"] []
  g_law : mg "law" = some (.ref a_law)
  a_m_Grove_init : Addr
  fd_m_Grove_init : FuncData
  F_m_Grove_init : FunDf G.K "__init__" "Grove.__init__" s_m_Grove_init a_m_Grove_init fd_m_Grove_init [(V.bl false)]
  b_m_Grove_init : Binds G.K fd_m_Grove_init ["self", "places", "one_way"] []
  ds_m_Grove_init : List Value
  v_m_Grove_init : Vals [(V.bl false)] ds_m_Grove_init
  bd_m_Grove_init : Binds G.K fd_m_Grove_init ["self", "places", "one_way"] ds_m_Grove_init
  M_m_Grove_init : Mk G.K (G.cls 16) a_m_Grove_init
  a_m_Grove_put : Addr
  fd_m_Grove_put : FuncData
  F_m_Grove_put : Fun G.K "put" "Grove.put" s_m_Grove_put a_m_Grove_put fd_m_Grove_put
  b_m_Grove_put : Binds G.K fd_m_Grove_put ["self", "a", "b", "strength"] []
  M_m_Grove_put : Meth G.K (G.cls 16) "put" a_m_Grove_put
  a_m_Grove_take : Addr
  fd_m_Grove_take : FuncData
  F_m_Grove_take : Fun G.K "take" "Grove.take" s_m_Grove_take a_m_Grove_take fd_m_Grove_take
  b_m_Grove_take : Binds G.K fd_m_Grove_take ["self", "number"] []
  M_m_Grove_take : Meth G.K (G.cls 16) "take" a_m_Grove_take
  a_m_Grove_strengthen : Addr
  fd_m_Grove_strengthen : FuncData
  F_m_Grove_strengthen : Fun G.K "strengthen" "Grove.strengthen" s_m_Grove_strengthen a_m_Grove_strengthen fd_m_Grove_strengthen
  b_m_Grove_strengthen : Binds G.K fd_m_Grove_strengthen ["self", "number", "strength"] []
  M_m_Grove_strengthen : Meth G.K (G.cls 16) "strengthen" a_m_Grove_strengthen
  a_m_Grove_become : Addr
  fd_m_Grove_become : FuncData
  F_m_Grove_become : Fun G.K "become" "Grove.become" s_m_Grove_become a_m_Grove_become fd_m_Grove_become
  b_m_Grove_become : Binds G.K fd_m_Grove_become ["self", "standing"] []
  M_m_Grove_become : Meth G.K (G.cls 16) "become" a_m_Grove_become
  a_m_Grove_back : Addr
  fd_m_Grove_back : FuncData
  F_m_Grove_back : Fun G.K "back" "Grove.back" s_m_Grove_back a_m_Grove_back fd_m_Grove_back
  b_m_Grove_back : Binds G.K fd_m_Grove_back ["self"] []
  M_m_Grove_back : Meth G.K (G.cls 16) "back" a_m_Grove_back
  a_m_Grove_again : Addr
  fd_m_Grove_again : FuncData
  F_m_Grove_again : Fun G.K "again" "Grove.again" s_m_Grove_again a_m_Grove_again fd_m_Grove_again
  b_m_Grove_again : Binds G.K fd_m_Grove_again ["self"] []
  M_m_Grove_again : Meth G.K (G.cls 16) "again" a_m_Grove_again
  a_m_Grove_ties : Addr
  fd_m_Grove_ties : FuncData
  F_m_Grove_ties : Fun G.K "ties" "Grove.ties" s_m_Grove_ties a_m_Grove_ties fd_m_Grove_ties
  b_m_Grove_ties : Binds G.K fd_m_Grove_ties ["self"] []
  M_m_Grove_ties : Meth G.K (G.cls 16) "ties" a_m_Grove_ties
  a_m_Grove_laid_out : Addr
  fd_m_Grove_laid_out : FuncData
  F_m_Grove_laid_out : Fun G.K "laid_out" "Grove.laid_out" s_m_Grove_laid_out a_m_Grove_laid_out fd_m_Grove_laid_out
  b_m_Grove_laid_out : Binds G.K fd_m_Grove_laid_out ["self"] []
  M_m_Grove_laid_out : Meth G.K (G.cls 16) "laid_out" a_m_Grove_laid_out
  c_m_Grove_laid_out : Addr
  T_m_Grove_laid_out : Addr
  h_m_Grove_laid_out : fd_m_Grove_laid_out.code = .ref c_m_Grove_laid_out
  t_m_Grove_laid_out : T_m_Grove_laid_out ∈ G.tabs ∧ LamT.is T_m_Grove_laid_out = false
  B_m_Grove_laid_out : TabB b0 mg c_m_Grove_laid_out T_m_Grove_laid_out
  a_m_Grove_numbers : Addr
  fd_m_Grove_numbers : FuncData
  F_m_Grove_numbers : Fun G.K "numbers" "Grove.numbers" s_m_Grove_numbers a_m_Grove_numbers fd_m_Grove_numbers
  b_m_Grove_numbers : Binds G.K fd_m_Grove_numbers ["self"] []
  M_m_Grove_numbers : Meth G.K (G.cls 16) "numbers" a_m_Grove_numbers
  a_m_Grove_spot_of : Addr
  fd_m_Grove_spot_of : FuncData
  F_m_Grove_spot_of : Fun G.K "spot_of" "Grove.spot_of" s_m_Grove_spot_of a_m_Grove_spot_of fd_m_Grove_spot_of
  b_m_Grove_spot_of : Binds G.K fd_m_Grove_spot_of ["self", "number"] []
  M_m_Grove_spot_of : Meth G.K (G.cls 16) "spot_of" a_m_Grove_spot_of
  gC_Grove : mg "Grove" = some (.ref (G.cls 16))
  cl_Grove : Cls G.K (G.cls 16)
  na_Grove_places : NoAttr G.K (G.cls 16) "places"
  na_Grove_one_way : NoAttr G.K (G.cls 16) "one_way"
  na_Grove_given : NoAttr G.K (G.cls 16) "given"
  na_Grove_standing : NoAttr G.K (G.cls 16) "standing"
  na_Grove_before : NoAttr G.K (G.cls 16) "before"
  na_Grove_undone : NoAttr G.K (G.cls 16) "undone"
  m_abs : mg "abs" = none
  m_bool : mg "bool" = none
  m_divmod : mg "divmod" = none
  m_int : mg "int" = none
  m_isinstance : mg "isinstance" = none
  m_len : mg "len" = none
  m_list : mg "list" = none
  m_max : mg "max" = none
  m_min : mg "min" = none
  m_range : mg "range" = none
  m_repr : mg "repr" = none
  m_sorted : mg "sorted" = none
  m_tuple : mg "tuple" = none
  c_MOST_LANES : ∃ t, mg "MOST_LANES" = some (.int 60 t)
  c_MOST_PLACES : ∃ t, mg "MOST_PLACES" = some (.int 9 t)
  c_MOST_TIES : ∃ t, mg "MOST_TIES" = some (.int 30 t)
noncomputable section
variable {P : Program} {w : World} {G : Gb} {mg : Str → Option Value} {b0 : Heap}
abbrev n_is_whole : List Str := ["thing"]
theorem sc_is_whole : FnScope n_is_whole ["thing"] (defScope s_is_whole) := ⟨rfl, rfl, rfl, by decide +kernel, rfl, by decide +kernel, by decide +kernel⟩
theorem ok_is_whole (Q : Fx G mg b0) : TA.FnG P w G.K mg b0 CX0 1 Q.a_is_whole Q.fd_is_whole ["thing"] (spV G [] true 1 f_is_whole) :=
  fnV (S := d_is_whole) (N := n_is_whole) Q.F_is_whole sc_is_whole (by decide) (by decide) fun cd B ou s H E x hg hr =>
    (vss_one (vs_ret (ve_and x (ve_isi (T := "int") x (by rfl) Q.m_isinstance (by rfl) Q.m_int (by decide) (by decide +kernel) (ve_var (pv 0))) (ve_one (ve_not x (ve_isi (T := "bool") x (by rfl) Q.m_isinstance (by rfl) Q.m_bool (by decide) (by decide +kernel) (ve_var (pv 0))))))))
abbrev n_law_nth : List Str := ["_law_script", "_law_k"]
theorem sc_law_nth : FnScope n_law_nth ["_law_script", "_law_k"] (defScope s_law_nth) := ⟨rfl, rfl, rfl, by decide +kernel, rfl, by decide +kernel, by decide +kernel⟩
theorem ok_law_nth (Q : Fx G mg b0) : TA.FnG P w G.K mg b0 CX0 1 Q.a_law_nth Q.fd_law_nth ["_law_script", "_law_k"] (spV G [] true 2 f_law_nth) :=
  fnV (S := d_law_nth) (N := n_law_nth) Q.F_law_nth sc_law_nth (by decide) (by decide) fun cd B ou s H E x hg hr =>
    (vss_one (vs_ret (ve_if (vt_cmp op_lt prim_lt (ve_var (pv 1)) (ve_callB call_lenAll (prim_len x.K) (by rfl) Q.m_len (by decide +kernel) (vl_cons (ve_var (pv 0)) vl_nil)) (nomark _)) (ve_sub x (ve_var (pv 0)) (ve_var (pv 1))) ve_int)))
abbrev n_law_take : List Str := ["_law_pot_here", "_law_many", "_law_digit"]
theorem sc_law_take : FnScope n_law_take ["_law_pot_here", "_law_many"] (defScope s_law_take) := ⟨rfl, rfl, rfl, by decide +kernel, rfl, by decide +kernel, by decide +kernel⟩
theorem ok_law_take (Q : Fx G mg b0) : TA.FnG P w G.K mg b0 CX0 1 Q.a_law_take Q.fd_law_take ["_law_pot_here", "_law_many"] (spV G [0] true 2 f_law_take) :=
  fnV (S := d_law_take) (N := n_law_take) Q.F_law_take sc_law_take (by decide) (by decide) fun cd B ou s H E x hg hr =>
    (vss_cons (vs_if (vt_cmp op_gt prim_gt (ve_sub x (ve_var (pv 0)) ve_int) ve_int (nomark _)) (vss_cons (vs_pairSet (j := 2) x (ve_callB call_divmod prim_divmod (by rfl) Q.m_divmod (by decide +kernel) (vl_cons (ve_sub x (ve_var (pv 0)) ve_int) (vl_cons (ve_var (pv 1)) vl_nil))) (vp_name (pv 0)) ve_int sc_law_take.nd rfl (by first | exact .inl rfl | exact .inr rfl))
    (vss_one (vs_ret (ve_var (pv 2)))))
    vss_nil)
    (vss_cons (vs_setItem x (ve_op op_mod prim_mod (ve_opV op_addAll prim_add (ve_op op_mulAll prim_mul (ve_sub x (ve_var (pv 0)) ve_int) ve_int) ve_int) ve_int) (vp_name (pv 0)) ve_int)
    (vss_one (vs_ret (ve_op op_mod prim_mod (ve_op op_fdiv prim_fdiv (ve_op op_mod prim_mod (ve_op op_mulAll prim_mul (ve_sub x (ve_var (pv 0)) ve_int) (ve_sub x (ve_var (pv 0)) ve_int)) ve_int) ve_int) (ve_var (pv 1)))))))
abbrev n_law_settle : List Str := ["_law_stand", "_law_number", "_law_tie"]
theorem sc_law_settle : FnScope n_law_settle ["_law_stand", "_law_number", "_law_tie"] (defScope s_law_settle) := ⟨rfl, rfl, rfl, by decide +kernel, rfl, by decide +kernel, by decide +kernel⟩
theorem ok_law_settle (Q : Fx G mg b0) : TA.FnG P w G.K mg b0 CX0 1 Q.a_law_settle Q.fd_law_settle ["_law_stand", "_law_number", "_law_tie"] (spV G [0] true 3 f_law_settle) :=
  fnV (S := d_law_settle) (N := n_law_settle) Q.F_law_settle sc_law_settle (by decide) (by decide) fun cd B ou s H E x hg hr =>
    (vss_one (vs_if (vt_cmp op_isN prim_isN (ve_var (pv 2)) ve_non (nomark _)) (vss_one (vs_expr (ve_mut x PySem.F.plainAttrs_dict PySem.F.slot_dict_pop PySem.F.type_dict_pop mt_dpop mut_dpop (vp_name (pv 0)) (vl_cons (ve_var (pv 1)) vl_nil))))
    (vss_one (vs_setItem x (ve_var (pv 2)) (vp_name (pv 0)) (ve_var (pv 1))))))
abbrev n_law_ties : List Str := ["_law_state", "_law_number"]
theorem sc_law_ties : FnScope n_law_ties ["_law_state"] (defScope s_law_ties) := ⟨rfl, rfl, rfl, by decide +kernel, rfl, by decide +kernel, by decide +kernel⟩
theorem ok_law_ties (Q : Fx G mg b0) : TA.FnG P w G.K mg b0 CX0 1 Q.a_law_ties Q.fd_law_ties ["_law_state"] (spV G [] true 1 f_law_ties) :=
  fnV (S := d_law_ties) (N := n_law_ties) Q.F_law_ties sc_law_ties (by decide) (by decide) fun cd B ou s H E x hg hr =>
    (vss_one (vs_ret (ve_lc x sc_law_ties.nd (own := [("_law_number", 1)]) (W := [1]) (M := []) (g := fun b => (gSet (.pr b) 1)) (t := tYesF) (f := d_law_ties_1) (vi_seq x (ve_callB (call_sortedA x) (prim_sortedA x.K) (by rfl) Q.m_sorted (by decide +kernel) (vl_cons (ve_sub x (ve_var (pv 0)) ve_int) vl_nil))) (blkOk_by (N := n_law_ties) (sc := (defScope s_law_ties)) (by decide +kernel)) (fun b _ _ _ _ _ => (vg_name (i := 1) sc_law_ties.nd rfl (by first | exact .inl rfl | exact .inr rfl))) (fun _ _ _ _ _ => vts_mono vts_nil) (fun _ _ _ _ _ => ve_mono (ve_opV op_addT (prim_addT x.blk.K) (ve_tup (vl_cons (ve_var (pv 1)) vl_nil)) (ve_sub x.blk (ve_sub x.blk (ve_var (pv 0)) ve_int) (ve_var (pv 1))))))))
abbrev n_m_Grove_become : List Str := ["self", "standing"]
theorem sc_m_Grove_become : FnScope n_m_Grove_become ["self", "standing"] (defScope s_m_Grove_become) := ⟨rfl, rfl, rfl, by decide +kernel, rfl, by decide +kernel, by decide +kernel⟩
theorem ok_m_Grove_become (Q : Fx G mg b0) : TA.FnG P w G.K mg b0 CX0 1 Q.a_m_Grove_become Q.fd_m_Grove_become ["self", "standing"] (spM 2 (rBecome G 16)) :=
  fnBecome (c := 16) (N := n_m_Grove_become) Q.F_m_Grove_become sc_m_Grove_become rfl rfl Q.cl_Grove Q.na_Grove_before Q.na_Grove_standing Q.na_Grove_undone fun cd B ou s H E x =>
    pss_cons (ps_expr (pe_bm PySem.F.plainAttrs_list PySem.F.slot_list_append PySem.F.type_list_append mt_append (pe_fld (pv 0) rfl) (pa_cons (pe_fld (pv 0) rfl) pa_nil)))
    (pss_cons (ps_fld (pv 0) (pe_lst pa_nil) rfl) (pss_one (ps_fld (pv 0) (pv 1) rfl)))
abbrev n_m_Grove_back : List Str := ["self"]
theorem sc_m_Grove_back : FnScope n_m_Grove_back ["self"] (defScope s_m_Grove_back) := ⟨rfl, rfl, rfl, by decide +kernel, rfl, by decide +kernel, by decide +kernel⟩
theorem ok_m_Grove_back (Q : Fx G mg b0) : TA.FnG P w G.K mg b0 CX0 1 Q.a_m_Grove_back Q.fd_m_Grove_back ["self"] (spV G [0] true 1 f_m_Grove_back) :=
  fnV (S := d_m_Grove_back) (N := n_m_Grove_back) Q.F_m_Grove_back sc_m_Grove_back (by decide) (by decide) fun cd B ou s H E x hg hr =>
    (vss_cons (vs_if (vt_not (vt_truth x (ve_fld x.K Q.cl_Grove Q.na_Grove_before (ve_var (pv 0))))) (vss_one vs_never)
    vss_nil)
    (vss_cons (vs_mvF x Q.cl_Grove Q.na_Grove_undone Q.na_Grove_standing (pv 0) (pv 0))
    (vss_one (vs_popF x Q.cl_Grove Q.na_Grove_standing Q.na_Grove_before (pv 0) (pv 0)))))
abbrev n_m_Grove_again : List Str := ["self"]
theorem sc_m_Grove_again : FnScope n_m_Grove_again ["self"] (defScope s_m_Grove_again) := ⟨rfl, rfl, rfl, by decide +kernel, rfl, by decide +kernel, by decide +kernel⟩
theorem ok_m_Grove_again (Q : Fx G mg b0) : TA.FnG P w G.K mg b0 CX0 1 Q.a_m_Grove_again Q.fd_m_Grove_again ["self"] (spV G [0] true 1 f_m_Grove_again) :=
  fnV (S := d_m_Grove_again) (N := n_m_Grove_again) Q.F_m_Grove_again sc_m_Grove_again (by decide) (by decide) fun cd B ou s H E x hg hr =>
    (vss_cons (vs_if (vt_not (vt_truth x (ve_fld x.K Q.cl_Grove Q.na_Grove_undone (ve_var (pv 0))))) (vss_one vs_never)
    vss_nil)
    (vss_cons (vs_mvF x Q.cl_Grove Q.na_Grove_before Q.na_Grove_standing (pv 0) (pv 0))
    (vss_one (vs_popF x Q.cl_Grove Q.na_Grove_standing Q.na_Grove_undone (pv 0) (pv 0)))))
abbrev n_m_Grove_ties : List Str := ["self"]
theorem sc_m_Grove_ties : FnScope n_m_Grove_ties ["self"] (defScope s_m_Grove_ties) := ⟨rfl, rfl, rfl, by decide +kernel, rfl, by decide +kernel, by decide +kernel⟩
theorem ok_m_Grove_ties (Q : Fx G mg b0) : TA.FnG P w G.K mg b0 CX0 1 Q.a_m_Grove_ties Q.fd_m_Grove_ties ["self"] (spV G [] true 1 f_m_Grove_ties) :=
  fnV (S := d_m_Grove_ties) (N := n_m_Grove_ties) Q.F_m_Grove_ties sc_m_Grove_ties (by decide) (by decide) fun cd B ou s H E x hg hr =>
    (vss_one (vs_ret (ve_callTy call_list_of (prim_list x.K) (by rfl) Q.m_list (by decide +kernel) (vl_cons (ve_fld x.K Q.cl_Grove Q.na_Grove_standing (ve_var (pv 0))) vl_nil))))
abbrev n_m_Grove_numbers : List Str := ["self", "a", "b", "number", "strength"]
theorem sc_m_Grove_numbers : FnScope n_m_Grove_numbers ["self"] (defScope s_m_Grove_numbers) := ⟨rfl, rfl, rfl, by decide +kernel, rfl, by decide +kernel, by decide +kernel⟩
theorem ok_m_Grove_numbers (Q : Fx G mg b0) : TA.FnG P w G.K mg b0 CX0 1 Q.a_m_Grove_numbers Q.fd_m_Grove_numbers ["self"] (spV G [] true 1 f_m_Grove_numbers) :=
  fnV (S := d_m_Grove_numbers) (N := n_m_Grove_numbers) Q.F_m_Grove_numbers sc_m_Grove_numbers (by decide) (by decide) fun cd B ou s H E x hg hr =>
    (vss_one (vs_ret (ve_lc x sc_m_Grove_numbers.nd (own := [("number", 3), ("a", 1), ("b", 2), ("strength", 4)]) (W := [3, 1, 2, 4]) (M := []) (g := fun b => (gTupE 4 (gsCons (gSet (.pr b) 3) (gsCons (gSet (.pr b) 1) (gsCons (gSet (.pr b) 2) (gsCons (gSet (.pr b) 4) gsNil)))))) (t := tYesF) (f := d_m_Grove_numbers_1) (vi_seq x (ve_fld x.K Q.cl_Grove Q.na_Grove_standing (ve_var (pv 0)))) (blkOk_by (N := n_m_Grove_numbers) (sc := (defScope s_m_Grove_numbers)) (by decide +kernel)) (fun b _ _ _ _ _ => (vg_tup x.blk (vgs_cons (vg_name (i := 3) sc_m_Grove_numbers.nd rfl (by first | exact .inl rfl | exact .inr rfl)) (vgs_cons (vg_name (i := 1) sc_m_Grove_numbers.nd rfl (by first | exact .inl rfl | exact .inr rfl)) (vgs_cons (vg_name (i := 2) sc_m_Grove_numbers.nd rfl (by first | exact .inl rfl | exact .inr rfl)) (vgs_cons (vg_name (i := 4) sc_m_Grove_numbers.nd rfl (by first | exact .inl rfl | exact .inr rfl)) vgs_nil)))))) (fun _ _ _ _ _ => vts_mono vts_nil) (fun _ _ _ _ _ => ve_mono (ve_var (pv 3))))))
abbrev n_is_place : List Str := ["places", "thing"]
theorem sc_is_place : FnScope n_is_place ["places", "thing"] (defScope s_is_place) := ⟨rfl, rfl, rfl, by decide +kernel, rfl, by decide +kernel, by decide +kernel⟩
theorem ok_is_place (Q : Fx G mg b0) : TA.FnG P w G.K mg b0 CX0 2 Q.a_is_place Q.fd_is_place ["places", "thing"] (spV G [] true 2 f_is_place) :=
  fnV (S := d_is_place) (N := n_is_place) Q.F_is_place sc_is_place (by decide) (by decide) fun cd B ou s H E x hg hr =>
    (vss_one (vs_ret (ve_and x (ve_call (ro := true) (k := 1) (ok_is_whole Q) hg (hr.mono (by decide)) (by rfl) Q.g_is_whole Q.F_is_whole.kp Q.b_is_whole pass0 [] (vl_cons (ve_var (pv 1)) vl_nil)) (ve_one (ve_chain (o1 := (fun i j => decide (i ≤ j))) (o2 := (fun i j => decide (i < j))) op_le op_lt ve_int (ve_var (pv 1)) (ve_var (pv 0)))))))
abbrev n_refuse_size : List Str := ["places"]
theorem sc_refuse_size : FnScope n_refuse_size ["places"] (defScope s_refuse_size) := ⟨rfl, rfl, rfl, by decide +kernel, rfl, by decide +kernel, by decide +kernel⟩
theorem ok_refuse_size (Q : Fx G mg b0) : TA.FnG P w G.K mg b0 CX0 2 Q.a_refuse_size Q.fd_refuse_size ["places"] (spV G [] true 1 f_refuse_size) :=
  fnV (S := d_refuse_size) (N := n_refuse_size) Q.F_refuse_size sc_refuse_size (by decide) (by decide) fun cd B ou s H E x hg hr =>
    (vss_one (vs_if (vt_w (vw_or (vt_not (vt_truth x (ve_call (ro := true) (k := 1) (ok_is_whole Q) hg (hr.mono (by decide)) (by rfl) Q.g_is_whole Q.F_is_whole.kp Q.b_is_whole pass0 [] (vl_cons (ve_var (pv 0)) vl_nil)))) (vw_or1 (vt_not (vt_chain (o1 := (fun i j => decide (i ≤ j))) (o2 := (fun i j => decide (i ≤ j))) op_le op_le ve_int (ve_var (pv 0)) (ve_gi (by rfl) Q.c_MOST_PLACES)))))) (vss_one vs_never)
    vss_nil))
abbrev n_is_amount : List Str := ["thing"]
theorem sc_is_amount : FnScope n_is_amount ["thing"] (defScope s_is_amount) := ⟨rfl, rfl, rfl, by decide +kernel, rfl, by decide +kernel, by decide +kernel⟩
theorem ok_is_amount (Q : Fx G mg b0) : TA.FnG P w G.K mg b0 CX0 2 Q.a_is_amount Q.fd_is_amount ["thing"] (spV G [] true 1 f_is_amount) :=
  fnV (S := d_is_amount) (N := n_is_amount) Q.F_is_amount sc_is_amount (by decide) (by decide) fun cd B ou s H E x hg hr =>
    (vss_one (vs_ret (ve_and x (ve_call (ro := true) (k := 1) (ok_is_whole Q) hg (hr.mono (by decide)) (by rfl) Q.g_is_whole Q.F_is_whole.kp Q.b_is_whole pass0 [] (vl_cons (ve_var (pv 0)) vl_nil)) (ve_one (ve_cmp op_ge prim_ge (ve_var (pv 0)) ve_int (nomark _))))))
abbrev n_law_pot : List Str := ["_law_script", "_law_k", "_law_cell"]
theorem sc_law_pot : FnScope n_law_pot ["_law_script", "_law_k"] (defScope s_law_pot) := ⟨rfl, rfl, rfl, by decide +kernel, rfl, by decide +kernel, by decide +kernel⟩
theorem ok_law_pot (Q : Fx G mg b0) : TA.FnG P w G.K mg b0 CX0 2 Q.a_law_pot Q.fd_law_pot ["_law_script", "_law_k"] (spV G [] true 2 f_law_pot) :=
  fnV (S := d_law_pot) (N := n_law_pot) Q.F_law_pot sc_law_pot (by decide) (by decide) fun cd B ou s H E x hg hr =>
    (vss_cons (vs_set (i := 2) sc_law_pot.nd rfl (by first | exact .inl rfl | exact .inr rfl) (ve_call (ro := true) (k := 1) (ok_law_nth Q) hg (hr.mono (by decide)) (by rfl) Q.g_law_nth Q.F_law_nth.kp Q.b_law_nth pass0 [] (vl_cons (ve_var (pv 0)) (vl_cons (ve_var (pv 1)) vl_nil))))
    (vss_one (vs_ret (ve_lst (vl_cons (ve_callB (call_maxAll x) (prim_max x.K) (by rfl) Q.m_max (by decide +kernel) (vl_cons ve_int (vl_cons (ve_op op_sub prim_sub (ve_callB call_abs prim_abs (by rfl) Q.m_abs (by decide +kernel) (vl_cons (ve_var (pv 2)) vl_nil)) (ve_op op_pow prim_pow ve_int ve_int)) vl_nil))) (vl_cons (ve_opV op_addAll prim_add (ve_opV op_addAll prim_add (ve_op op_mod prim_mod (ve_callB call_abs prim_abs (by rfl) Q.m_abs (by decide +kernel) (vl_cons (ve_var (pv 2)) vl_nil)) ve_int) (ve_op op_mulAll prim_mul ve_int (ve_var (pv 1)))) ve_int) vl_nil))))))
abbrev n_law_strength : List Str := ["_law_pot_here", "_law_way", "_law_far"]
theorem sc_law_strength : FnScope n_law_strength ["_law_pot_here"] (defScope s_law_strength) := ⟨rfl, rfl, rfl, by decide +kernel, rfl, by decide +kernel, by decide +kernel⟩
theorem ok_law_strength (Q : Fx G mg b0) : TA.FnG P w G.K mg b0 CX0 2 Q.a_law_strength Q.fd_law_strength ["_law_pot_here"] (spV G [0] true 1 f_law_strength) :=
  fnV (S := d_law_strength) (N := n_law_strength) Q.F_law_strength sc_law_strength (by decide) (by decide) fun cd B ou s H E x hg hr =>
    (vss_cons (vs_set (i := 1) sc_law_strength.nd rfl (by first | exact .inl rfl | exact .inr rfl) (ve_call (ro := true) (k := 1) (ok_law_take Q) hg (hr.mono (by decide)) (by rfl) Q.g_law_take Q.F_law_take.kp Q.b_law_take pass0 [0] (vl_cons (ve_ref (pv 0)) (vl_cons ve_int vl_nil))))
    (vss_cons (vs_set (i := 2) sc_law_strength.nd rfl (by first | exact .inl rfl | exact .inr rfl) (ve_opV op_addAll prim_add (ve_op op_mulAll prim_mul (ve_call (ro := true) (k := 1) (ok_law_take Q) hg (hr.mono (by decide)) (by rfl) Q.g_law_take Q.F_law_take.kp Q.b_law_take pass0 [0] (vl_cons (ve_ref (pv 0)) (vl_cons (ve_op op_pow prim_pow ve_int ve_int) vl_nil))) (ve_op op_pow prim_pow ve_int ve_int)) (ve_call (ro := true) (k := 1) (ok_law_take Q) hg (hr.mono (by decide)) (by rfl) Q.g_law_take Q.F_law_take.kp Q.b_law_take pass0 [0] (vl_cons (ve_ref (pv 0)) (vl_cons (ve_op op_pow prim_pow ve_int ve_int) vl_nil)))))
    (vss_one (vs_ret (ve_sub x (ve_lst (vl_cons ve_int (vl_cons (ve_call (ro := true) (k := 1) (ok_law_take Q) hg (hr.mono (by decide)) (by rfl) Q.g_law_take Q.F_law_take.kp Q.b_law_take pass0 [0] (vl_cons (ve_ref (pv 0)) (vl_cons ve_int vl_nil))) (vl_cons (ve_call (ro := true) (k := 1) (ok_law_take Q) hg (hr.mono (by decide)) (by rfl) Q.g_law_take Q.F_law_take.kp Q.b_law_take pass0 [0] (vl_cons (ve_ref (pv 0)) (vl_cons ve_int vl_nil))) (vl_cons (ve_var (pv 2)) (vl_cons ve_int vl_nil)))))) (ve_var (pv 1)))))))
abbrev n_law_begun : List Str := ["_law_pot_here", "_law_most"]
theorem sc_law_begun : FnScope n_law_begun ["_law_pot_here", "_law_most"] (defScope s_law_begun) := ⟨rfl, rfl, rfl, by decide +kernel, rfl, by decide +kernel, by decide +kernel⟩
theorem ok_law_begun (Q : Fx G mg b0) : TA.FnG P w G.K mg b0 CX0 2 Q.a_law_begun Q.fd_law_begun ["_law_pot_here", "_law_most"] (spV G [0] true 2 f_law_begun) :=
  fnV (S := d_law_begun) (N := n_law_begun) Q.F_law_begun sc_law_begun (by decide) (by decide) fun cd B ou s H E x hg hr =>
    (vss_one (vs_ret (ve_lst (vl_cons (ve_opV op_addAll prim_add ve_int (ve_call (ro := true) (k := 1) (ok_law_take Q) hg (hr.mono (by decide)) (by rfl) Q.g_law_take Q.F_law_take.kp Q.b_law_take pass0 [0] (vl_cons (ve_ref (pv 0)) (vl_cons (ve_var (pv 1)) vl_nil)))) (vl_cons (ve_cmp (op_eqAll x) (prim_eqA x.K) (ve_call (ro := true) (k := 1) (ok_law_take Q) hg (hr.mono (by decide)) (by rfl) Q.g_law_take Q.F_law_take.kp Q.b_law_take pass0 [0] (vl_cons (ve_ref (pv 0)) (vl_cons ve_int vl_nil))) ve_int (nomark _)) (vl_cons ve_dict0 (vl_cons ve_int (vl_cons (ve_lst vl_nil) (vl_cons (ve_lst vl_nil) vl_nil)))))))))
abbrev n_law_did : List Str := ["_law_state", "_law_number", "_law_tie"]
theorem sc_law_did : FnScope n_law_did ["_law_state", "_law_number", "_law_tie"] (defScope s_law_did) := ⟨rfl, rfl, rfl, by decide +kernel, rfl, by decide +kernel, by decide +kernel⟩
theorem ok_law_did (Q : Fx G mg b0) : TA.FnG P w G.K mg b0 CX0 2 Q.a_law_did Q.fd_law_did ["_law_state", "_law_number", "_law_tie"] (spV G [0] true 3 f_law_did) :=
  fnV (S := d_law_did) (N := n_law_did) Q.F_law_did sc_law_did (by decide) (by decide) fun cd B ou s H E x hg hr =>
    (vss_cons (vs_expr (ve_mut x PySem.F.plainAttrs_list PySem.F.slot_list_append PySem.F.type_list_append mt_append mut_append (vp_sub x (vp_name (pv 0)) ve_int) (vl_cons (ve_tup (vl_cons (ve_var (pv 1)) (vl_cons (ve_get x (ve_sub x (ve_var (pv 0)) ve_int) (ve_var (pv 1)) ⟨by rfl, by rfl, by rfl, by rfl⟩) (vl_cons (ve_var (pv 2)) vl_nil)))) vl_nil)))
    (vss_cons (vs_expr (ve_mut0 x PySem.F.plainAttrs_list PySem.F.slot_list_clear PySem.F.type_list_clear mt_clear mut_clear (vp_sub x (vp_name (pv 0)) ve_int)))
    (vss_one (vs_expr (ve_callF (as := []) (bs := [(eVar 1), (eVar 2)]) (ro := true) (k := 1) (ok_law_settle Q) hg (hr.mono (by decide)) (by rfl) Q.g_law_settle Q.F_law_settle.kp Q.b_law_settle pass0 (pap_nil (vp_sub x (vp_name (pv 0)) ve_int) (pat_cons (ve_var (pv 1)) (pat_cons (ve_var (pv 2)) pat_nil))))))))
abbrev n_law_gone_back : List Str := ["_law_grove", "_law_state", "_law_number", "_law_before", "_law_behind"]
theorem sc_law_gone_back : FnScope n_law_gone_back ["_law_grove", "_law_state"] (defScope s_law_gone_back) := ⟨rfl, rfl, rfl, by decide +kernel, rfl, by decide +kernel, by decide +kernel⟩
theorem ok_law_gone_back (Q : Fx G mg b0) : TA.FnG P w G.K mg b0 CX0 2 Q.a_law_gone_back Q.fd_law_gone_back ["_law_grove", "_law_state"] (spV G [0, 1] true 2 f_law_gone_back) :=
  fnV (S := d_law_gone_back) (N := n_law_gone_back) Q.F_law_gone_back sc_law_gone_back (by decide) (by decide) fun cd B ou s H E x hg hr =>
    (vss_cons (vs_unp x (ve_mut0 x PySem.F.plainAttrs_list PySem.F.slot_list_pop PySem.F.type_list_pop mt_popAll mut_pop (vp_sub x (vp_name (pv 1)) ve_int)) (vgs_cons (vg_name (i := 2) sc_law_gone_back.nd rfl (by first | exact .inl rfl | exact .inr rfl)) (vgs_cons (vg_name (i := 3) sc_law_gone_back.nd rfl (by first | exact .inl rfl | exact .inr rfl)) (vgs_cons (vg_name (i := 4) sc_law_gone_back.nd rfl (by first | exact .inl rfl | exact .inr rfl)) vgs_nil))))
    (vss_cons (vs_expr (ve_mut x PySem.F.plainAttrs_list PySem.F.slot_list_append PySem.F.type_list_append mt_append mut_append (vp_sub x (vp_name (pv 1)) ve_int) (vl_cons (ve_tup (vl_cons (ve_var (pv 2)) (vl_cons (ve_var (pv 3)) (vl_cons (ve_var (pv 4)) vl_nil)))) vl_nil)))
    (vss_cons (vs_expr (ve_callF (as := []) (bs := [(eVar 2), (eVar 3)]) (ro := true) (k := 1) (ok_law_settle Q) hg (hr.mono (by decide)) (by rfl) Q.g_law_settle Q.F_law_settle.kp Q.b_law_settle pass0 (pap_nil (vp_sub x (vp_name (pv 1)) ve_int) (pat_cons (ve_var (pv 2)) (pat_cons (ve_var (pv 3)) pat_nil)))))
    (vss_one (vs_ret (ve_cmp op_isN prim_isN (ve_meth0 (ro := true) (k := 1) x.K Q.cl_Grove Q.M_m_Grove_back (ok_m_Grove_back Q) hg (hr.mono (by decide)) Q.b_m_Grove_back pass0 (vp_name (pv 0))) ve_non (nomark _)))))))
abbrev n_law_gone_on : List Str := ["_law_grove", "_law_state", "_law_number", "_law_before", "_law_behind"]
theorem sc_law_gone_on : FnScope n_law_gone_on ["_law_grove", "_law_state"] (defScope s_law_gone_on) := ⟨rfl, rfl, rfl, by decide +kernel, rfl, by decide +kernel, by decide +kernel⟩
theorem ok_law_gone_on (Q : Fx G mg b0) : TA.FnG P w G.K mg b0 CX0 2 Q.a_law_gone_on Q.fd_law_gone_on ["_law_grove", "_law_state"] (spV G [0, 1] true 2 f_law_gone_on) :=
  fnV (S := d_law_gone_on) (N := n_law_gone_on) Q.F_law_gone_on sc_law_gone_on (by decide) (by decide) fun cd B ou s H E x hg hr =>
    (vss_cons (vs_unp x (ve_mut0 x PySem.F.plainAttrs_list PySem.F.slot_list_pop PySem.F.type_list_pop mt_popAll mut_pop (vp_sub x (vp_name (pv 1)) ve_int)) (vgs_cons (vg_name (i := 2) sc_law_gone_on.nd rfl (by first | exact .inl rfl | exact .inr rfl)) (vgs_cons (vg_name (i := 3) sc_law_gone_on.nd rfl (by first | exact .inl rfl | exact .inr rfl)) (vgs_cons (vg_name (i := 4) sc_law_gone_on.nd rfl (by first | exact .inl rfl | exact .inr rfl)) vgs_nil))))
    (vss_cons (vs_expr (ve_mut x PySem.F.plainAttrs_list PySem.F.slot_list_append PySem.F.type_list_append mt_append mut_append (vp_sub x (vp_name (pv 1)) ve_int) (vl_cons (ve_tup (vl_cons (ve_var (pv 2)) (vl_cons (ve_var (pv 3)) (vl_cons (ve_var (pv 4)) vl_nil)))) vl_nil)))
    (vss_cons (vs_expr (ve_callF (as := []) (bs := [(eVar 2), (eVar 4)]) (ro := true) (k := 1) (ok_law_settle Q) hg (hr.mono (by decide)) (by rfl) Q.g_law_settle Q.F_law_settle.kp Q.b_law_settle pass0 (pap_nil (vp_sub x (vp_name (pv 1)) ve_int) (pat_cons (ve_var (pv 2)) (pat_cons (ve_var (pv 4)) pat_nil)))))
    (vss_one (vs_ret (ve_cmp op_isN prim_isN (ve_meth0 (ro := true) (k := 1) x.K Q.cl_Grove Q.M_m_Grove_again (ok_m_Grove_again Q) hg (hr.mono (by decide)) Q.b_m_Grove_again pass0 (vp_name (pv 0))) ve_non (nomark _)))))))
abbrev n_law_stands : List Str := ["_law_grove", "_law_state", "_law_due", "_law_first", "_law_told"]
theorem sc_law_stands : FnScope n_law_stands ["_law_grove", "_law_state"] (defScope s_law_stands) := ⟨rfl, rfl, rfl, by decide +kernel, rfl, by decide +kernel, by decide +kernel⟩
theorem ok_law_stands (Q : Fx G mg b0) : TA.FnG P w G.K mg b0 CX0 2 Q.a_law_stands Q.fd_law_stands ["_law_grove", "_law_state"] (spV G [] true 2 f_law_stands) :=
  fnV (S := d_law_stands) (N := n_law_stands) Q.F_law_stands sc_law_stands (by decide) (by decide) fun cd B ou s H E x hg hr =>
    (vss_cons (vs_set (i := 2) sc_law_stands.nd rfl (by first | exact .inl rfl | exact .inr rfl) (ve_callB (call_reprXD hg x.un64) (prim_reprX x.K) (by rfl) Q.m_repr (by decide +kernel) (vl_cons (ve_call (ro := true) (k := 1) (ok_law_ties Q) hg (hr.mono (by decide)) (by rfl) Q.g_law_ties Q.F_law_ties.kp Q.b_law_ties pass0 [] (vl_cons (ve_var (pv 1)) vl_nil)) vl_nil)))
    (vss_cons (vs_set (i := 3) sc_law_stands.nd rfl (by first | exact .inl rfl | exact .inr rfl) (ve_methR0 (kx := (.sub 0)) (ro := true) (k := 1) x.K Q.cl_Grove Q.M_m_Grove_ties (ok_m_Grove_ties Q) hg (hr.mono (by decide)) Q.b_m_Grove_ties pass0 (ve_var (pv 0))))
    (vss_cons (vs_set (i := 4) sc_law_stands.nd rfl (by first | exact .inl rfl | exact .inr rfl) (ve_methR0 (kx := (.sub 0)) (ro := true) (k := 1) x.K Q.cl_Grove Q.M_m_Grove_ties (ok_m_Grove_ties Q) hg (hr.mono (by decide)) Q.b_m_Grove_ties pass0 (ve_var (pv 0))))
    (vss_cons (vs_if (vt_w (vw_or (vt_cmp (op_neAll x) (prim_neA x.K) (ve_callB (call_reprXD hg x.un64) (prim_reprX x.K) (by rfl) Q.m_repr (by decide +kernel) (vl_cons (ve_var (pv 3)) vl_nil)) (ve_var (pv 2)) (nomark _)) (vw_or1 (vt_cmp (op_neAll x) (prim_neA x.K) (ve_callB (call_reprXD hg x.un64) (prim_reprX x.K) (by rfl) Q.m_repr (by decide +kernel) (vl_cons (ve_var (pv 4)) vl_nil)) (ve_var (pv 2)) (nomark _))))) (vss_one (vs_ret ve_bl))
    vss_nil)
    (vss_cons (vs_expr (ve_mut x PySem.F.plainAttrs_list PySem.F.slot_list_append PySem.F.type_list_append mt_append mut_append (vp_name (pv 4)) (vl_cons (ve_tup (vl_cons (ve_un un_neg prim_neg ve_int) (vl_cons ve_int (vl_cons ve_int (vl_cons ve_int vl_nil))))) vl_nil)))
    (vss_cons (vs_expr (ve_mut0 x PySem.F.plainAttrs_list PySem.F.slot_list_reverse PySem.F.type_list_reverse mt_reverse mut_rev (vp_name (pv 4))))
    (vss_cons (vs_if (vt_w (vw_or (vt_cmp (op_neAll x) (prim_neA x.K) (ve_callB (call_reprXD hg x.un64) (prim_reprX x.K) (by rfl) Q.m_repr (by decide +kernel) (vl_cons (ve_var (pv 3)) vl_nil)) (ve_var (pv 2)) (nomark _)) (vw_or1 (vt_cmp (op_neAll x) (prim_neA x.K) (ve_callB (call_reprXD hg x.un64) (prim_reprX x.K) (by rfl) Q.m_repr (by decide +kernel) (vl_cons (ve_methR0 (kx := (.sub 0)) (ro := true) (k := 1) x.K Q.cl_Grove Q.M_m_Grove_ties (ok_m_Grove_ties Q) hg (hr.mono (by decide)) Q.b_m_Grove_ties pass0 (ve_var (pv 0))) vl_nil)) (ve_var (pv 2)) (nomark _))))) (vss_one (vs_ret ve_bl))
    vss_nil)
    (vss_cons (vs_expr (ve_mut x PySem.F.plainAttrs_list PySem.F.slot_list_append PySem.F.type_list_append mt_append mut_append (vp_name (pv 3)) (vl_cons (ve_tup (vl_cons (ve_un un_neg prim_neg ve_int) (vl_cons ve_int (vl_cons ve_int (vl_cons ve_int vl_nil))))) vl_nil)))
    (vss_cons (vs_expr (ve_mut0 x PySem.F.plainAttrs_list PySem.F.slot_list_reverse PySem.F.type_list_reverse mt_reverse mut_rev (vp_name (pv 3))))
    (vss_one (vs_ret (ve_cmp (op_eqAll x) (prim_eqA x.K) (ve_callB (call_reprXD hg x.un64) (prim_reprX x.K) (by rfl) Q.m_repr (by decide +kernel) (vl_cons (ve_methR0 (kx := (.sub 0)) (ro := true) (k := 1) x.K Q.cl_Grove Q.M_m_Grove_ties (ok_m_Grove_ties Q) hg (hr.mono (by decide)) Q.b_m_Grove_ties pass0 (ve_var (pv 0))) vl_nil)) (ve_var (pv 2)) (nomark _)))))))))))))
abbrev n_m_Grove_laid_out : List Str := ["self", "a", "b", "number", "strength"]
theorem sc_m_Grove_laid_out : FnScope n_m_Grove_laid_out ["self"] (defScope s_m_Grove_laid_out) := ⟨rfl, rfl, rfl, by decide +kernel, rfl, by decide +kernel, by decide +kernel⟩
theorem ok_m_Grove_laid_out (Q : Fx G mg b0) : TA.FnG P w G.K mg b0 CX0 2 Q.a_m_Grove_laid_out Q.fd_m_Grove_laid_out ["self"] (spV G [] true 1 f_m_Grove_laid_out) :=
  fnVC (S := d_m_Grove_laid_out) (N := n_m_Grove_laid_out) Q.F_m_Grove_laid_out Q.h_m_Grove_laid_out sc_m_Grove_laid_out (by decide) (by decide) fun B ou s H E x hg hr =>
    (vss_one (vs_ret (ve_tup (vl_cons (ve_own (ve_fld x.K Q.cl_Grove Q.na_Grove_places (ve_var (pv 0)))) (vl_cons (ve_tupG1R (n := 0) x hr (hr.mono (by decide)) Q.B_m_Grove_laid_out Q.t_m_Grove_laid_out rfl (by rfl) Q.m_tuple sc_m_Grove_laid_out.nd (own := [("number", 3), ("a", 1), ("b", 2), ("strength", 4)]) (W := [3, 1, 2, 4]) (g := fun b => (gTupE 4 (gsCons (gSet (.pr b) 3) (gsCons (gSet (.pr b) 1) (gsCons (gSet (.pr b) 2) (gsCons (gSet (.pr b) 4) gsNil)))))) (t := tYesF) (f := d_m_Grove_laid_out_2) (vi_seq x (ve_fld x.K Q.cl_Grove Q.na_Grove_standing (ve_var (pv 0)))) (TA.gxOk_by (N := n_m_Grove_laid_out) (sc := (defScope s_m_Grove_laid_out)) (by decide +kernel)) (fun b _ _ _ _ _ _ _ hrA => (vg_tup (x.gx hrA) (vgs_cons (vg_name (i := 3) sc_m_Grove_laid_out.nd rfl (by first | exact .inl rfl | exact .inr rfl)) (vgs_cons (vg_name (i := 1) sc_m_Grove_laid_out.nd rfl (by first | exact .inl rfl | exact .inr rfl)) (vgs_cons (vg_name (i := 2) sc_m_Grove_laid_out.nd rfl (by first | exact .inl rfl | exact .inr rfl)) (vgs_cons (vg_name (i := 4) sc_m_Grove_laid_out.nd rfl (by first | exact .inl rfl | exact .inr rfl)) vgs_nil)))))) (fun _ _ _ _ _ _ _ hrA => vts_nil) (fun _ _ _ _ _ _ _ hrA => (ve_tup (vl_cons (ve_var (pv 1)) (vl_cons (ve_var (pv 2)) vl_nil))))) vl_nil)))))
abbrev n_m_Grove_spot_of : List Str := ["self", "number", "numbers"]
theorem sc_m_Grove_spot_of : FnScope n_m_Grove_spot_of ["self", "number"] (defScope s_m_Grove_spot_of) := ⟨rfl, rfl, rfl, by decide +kernel, rfl, by decide +kernel, by decide +kernel⟩
theorem ok_m_Grove_spot_of (Q : Fx G mg b0) : TA.FnG P w G.K mg b0 CX0 2 Q.a_m_Grove_spot_of Q.fd_m_Grove_spot_of ["self", "number"] (spV G [] true 2 f_m_Grove_spot_of) :=
  fnV (S := d_m_Grove_spot_of) (N := n_m_Grove_spot_of) Q.F_m_Grove_spot_of sc_m_Grove_spot_of (by decide) (by decide) fun cd B ou s H E x hg hr =>
    (vss_cons (vs_set (i := 2) sc_m_Grove_spot_of.nd rfl (by first | exact .inl rfl | exact .inr rfl) (ve_methR0 (kx := (.sub 0)) (ro := true) (k := 1) x.K Q.cl_Grove Q.M_m_Grove_numbers (ok_m_Grove_numbers Q) hg (hr.mono (by decide)) Q.b_m_Grove_numbers pass0 (ve_var (pv 0))))
    (vss_cons (vs_if (vt_w (vw_or (vt_not (vt_truth x (ve_call (ro := true) (k := 1) (ok_is_whole Q) hg (hr.mono (by decide)) (by rfl) Q.g_is_whole Q.F_is_whole.kp Q.b_is_whole pass0 [] (vl_cons (ve_var (pv 1)) vl_nil)))) (vw_or1 (vt_cmp (op_notInAll x) (prim_notIn x.K) (ve_var (pv 1)) (ve_var (pv 2)) (by with_unfolding_all rfl))))) (vss_one vs_never)
    vss_nil)
    (vss_one (vs_ret (ve_idx x (ve_var (pv 2)) (ve_var (pv 1)))))))
abbrev n_refuse_strength : List Str := ["thing"]
theorem sc_refuse_strength : FnScope n_refuse_strength ["thing"] (defScope s_refuse_strength) := ⟨rfl, rfl, rfl, by decide +kernel, rfl, by decide +kernel, by decide +kernel⟩
theorem ok_refuse_strength (Q : Fx G mg b0) : TA.FnG P w G.K mg b0 CX0 3 Q.a_refuse_strength Q.fd_refuse_strength ["thing"] (spV G [] true 1 f_refuse_strength) :=
  fnV (S := d_refuse_strength) (N := n_refuse_strength) Q.F_refuse_strength sc_refuse_strength (by decide) (by decide) fun cd B ou s H E x hg hr =>
    (vss_one (vs_if (vt_not (vt_truth x (ve_call (ro := true) (k := 2) (ok_is_amount Q) hg (hr.mono (by decide)) (by rfl) Q.g_is_amount Q.F_is_amount.kp Q.b_is_amount pass0 [] (vl_cons (ve_var (pv 0)) vl_nil)))) (vss_one vs_never)
    vss_nil))
abbrev n_refuse_place : List Str := ["web", "thing"]
theorem sc_refuse_place : FnScope n_refuse_place ["web", "thing"] (defScope s_refuse_place) := ⟨rfl, rfl, rfl, by decide +kernel, rfl, by decide +kernel, by decide +kernel⟩
theorem ok_refuse_place (Q : Fx G mg b0) : TA.FnG P w G.K mg b0 CX0 3 Q.a_refuse_place Q.fd_refuse_place ["web", "thing"] (spV G [] true 2 f_refuse_place) :=
  fnV (S := d_refuse_place) (N := n_refuse_place) Q.F_refuse_place sc_refuse_place (by decide) (by decide) fun cd B ou s H E x hg hr =>
    (vss_one (vs_if (vt_not (vt_truth x (ve_call (ro := true) (k := 2) (ok_is_place Q) hg (hr.mono (by decide)) (by rfl) Q.g_is_place Q.F_is_place.kp Q.b_is_place pass0 [] (vl_cons (ve_sub x (ve_var (pv 0)) ve_int) (vl_cons (ve_var (pv 1)) vl_nil))))) (vss_one vs_never)
    vss_nil))
abbrev n_m_Grove_init : List Str := ["self", "places", "one_way"]
theorem sc_m_Grove_init : FnScope n_m_Grove_init ["self", "places", "one_way"] (defScope s_m_Grove_init) := ⟨rfl, rfl, rfl, by decide +kernel, rfl, by decide +kernel, by decide +kernel⟩
theorem ok_m_Grove_init (Q : Fx G mg b0) : TA.FnG P w G.K mg b0 CX0 3 Q.a_m_Grove_init Q.fd_m_Grove_init ["self", "places", "one_way"] (spV G [0] true 3 f_m_Grove_init) :=
  fnVd (S := d_m_Grove_init) (N := n_m_Grove_init) Q.F_m_Grove_init sc_m_Grove_init (by decide) (by decide) fun cd B ou s H E x hg hr =>
    (vss_cons (vs_expr (ve_call (ro := true) (k := 2) (ok_refuse_size Q) hg (hr.mono (by decide)) (by rfl) Q.g_refuse_size Q.F_refuse_size.kp Q.b_refuse_size pass0 [] (vl_cons (ve_var (pv 1)) vl_nil)))
    (vss_cons (vs_fld x.K Q.cl_Grove Q.na_Grove_places (ve_var (pv 1)) (vp_name (pv 0)))
    (vss_cons (vs_fld x.K Q.cl_Grove Q.na_Grove_one_way (ve_var (pv 2)) (vp_name (pv 0)))
    (vss_cons (vs_fld x.K Q.cl_Grove Q.na_Grove_given ve_int (vp_name (pv 0)))
    (vss_cons (vs_fld x.K Q.cl_Grove Q.na_Grove_standing (ve_lst vl_nil) (vp_name (pv 0)))
    (vss_cons (vs_fld x.K Q.cl_Grove Q.na_Grove_before (ve_lst vl_nil) (vp_name (pv 0)))
    (vss_one (vs_fld x.K Q.cl_Grove Q.na_Grove_undone (ve_lst vl_nil) (vp_name (pv 0))))))))))
abbrev n_m_Grove_take : List Str := ["self", "number", "at"]
theorem sc_m_Grove_take : FnScope n_m_Grove_take ["self", "number"] (defScope s_m_Grove_take) := ⟨rfl, rfl, rfl, by decide +kernel, rfl, by decide +kernel, by decide +kernel⟩
theorem ok_m_Grove_take (Q : Fx G mg b0) : TA.FnG P w G.K mg b0 CX0 3 Q.a_m_Grove_take Q.fd_m_Grove_take ["self", "number"] (spV G [0] true 2 f_m_Grove_take) :=
  fnV (S := d_m_Grove_take) (N := n_m_Grove_take) Q.F_m_Grove_take sc_m_Grove_take (by decide) (by decide) fun cd B ou s H E x hg hr =>
    (vss_cons (vs_set (i := 2) sc_m_Grove_take.nd rfl (by first | exact .inl rfl | exact .inr rfl) (ve_methR (kx := (.sub 0)) (ro := true) (k := 2) x.K Q.cl_Grove Q.M_m_Grove_spot_of (ok_m_Grove_spot_of Q) hg (hr.mono (by decide)) Q.b_m_Grove_spot_of pass0 (ve_var (pv 0)) (pat_cons (ve_var (pv 1)) pat_nil)))
    (vss_one (vs_methM x.K Q.cl_Grove Q.M_m_Grove_become (ok_m_Grove_become Q) mut_become hg (hr.mono (by decide)) Q.b_m_Grove_become pass0 (pv 0) (ve_opV op_addAll prim_add (ve_slice x (ve_fld x.K Q.cl_Grove Q.na_Grove_standing (ve_var (pv 0))) vo_none (vo_some (ve_var (pv 2)))) (ve_slice x (ve_fld x.K Q.cl_Grove Q.na_Grove_standing (ve_var (pv 0))) (vo_some (ve_opV op_addAll prim_add (ve_var (pv 2)) ve_int)) vo_none)))))
abbrev n_refuse_two_places : List Str := ["web", "a", "b"]
theorem sc_refuse_two_places : FnScope n_refuse_two_places ["web", "a", "b"] (defScope s_refuse_two_places) := ⟨rfl, rfl, rfl, by decide +kernel, rfl, by decide +kernel, by decide +kernel⟩
theorem ok_refuse_two_places (Q : Fx G mg b0) : TA.FnG P w G.K mg b0 CX0 4 Q.a_refuse_two_places Q.fd_refuse_two_places ["web", "a", "b"] (spV G [] true 3 f_refuse_two_places) :=
  fnV (S := d_refuse_two_places) (N := n_refuse_two_places) Q.F_refuse_two_places sc_refuse_two_places (by decide) (by decide) fun cd B ou s H E x hg hr =>
    (vss_cons (vs_expr (ve_call (ro := true) (k := 3) (ok_refuse_place Q) hg (hr.mono (by decide)) (by rfl) Q.g_refuse_place Q.F_refuse_place.kp Q.b_refuse_place pass0 [] (vl_cons (ve_var (pv 0)) (vl_cons (ve_var (pv 1)) vl_nil))))
    (vss_cons (vs_expr (ve_call (ro := true) (k := 3) (ok_refuse_place Q) hg (hr.mono (by decide)) (by rfl) Q.g_refuse_place Q.F_refuse_place.kp Q.b_refuse_place pass0 [] (vl_cons (ve_var (pv 0)) (vl_cons (ve_var (pv 2)) vl_nil))))
    (vss_one (vs_if (vt_cmp (op_eqAll x) (prim_eqA x.K) (ve_var (pv 1)) (ve_var (pv 2)) (nomark _)) (vss_one vs_never)
    vss_nil))))
abbrev n_m_Grove_strengthen : List Str := ["self", "number", "strength", "at", "standing"]
theorem sc_m_Grove_strengthen : FnScope n_m_Grove_strengthen ["self", "number", "strength"] (defScope s_m_Grove_strengthen) := ⟨rfl, rfl, rfl, by decide +kernel, rfl, by decide +kernel, by decide +kernel⟩
theorem ok_m_Grove_strengthen (Q : Fx G mg b0) : TA.FnG P w G.K mg b0 CX0 4 Q.a_m_Grove_strengthen Q.fd_m_Grove_strengthen ["self", "number", "strength"] (spV G [0] true 3 f_m_Grove_strengthen) :=
  fnV (S := d_m_Grove_strengthen) (N := n_m_Grove_strengthen) Q.F_m_Grove_strengthen sc_m_Grove_strengthen (by decide) (by decide) fun cd B ou s H E x hg hr =>
    (vss_cons (vs_set (i := 3) sc_m_Grove_strengthen.nd rfl (by first | exact .inl rfl | exact .inr rfl) (ve_methR (kx := (.sub 0)) (ro := true) (k := 2) x.K Q.cl_Grove Q.M_m_Grove_spot_of (ok_m_Grove_spot_of Q) hg (hr.mono (by decide)) Q.b_m_Grove_spot_of pass0 (ve_var (pv 0)) (pat_cons (ve_var (pv 1)) pat_nil)))
    (vss_cons (vs_expr (ve_call (ro := true) (k := 3) (ok_refuse_strength Q) hg (hr.mono (by decide)) (by rfl) Q.g_refuse_strength Q.F_refuse_strength.kp Q.b_refuse_strength pass0 [] (vl_cons (ve_var (pv 2)) vl_nil)))
    (vss_cons (vs_set (i := 4) sc_m_Grove_strengthen.nd rfl (by first | exact .inl rfl | exact .inr rfl) (ve_callTy call_list_of (prim_list x.K) (by rfl) Q.m_list (by decide +kernel) (vl_cons (ve_fld x.K Q.cl_Grove Q.na_Grove_standing (ve_var (pv 0))) vl_nil)))
    (vss_cons (vs_setItem x (ve_opV op_addT (prim_addT x.K) (ve_slice x (ve_sub x (ve_var (pv 4)) (ve_var (pv 3))) vo_none (vo_some ve_int)) (ve_tup (vl_cons (ve_var (pv 2)) vl_nil))) (vp_name (pv 4)) (ve_var (pv 3)))
    (vss_one (vs_methV x.K Q.cl_Grove Q.M_m_Grove_become (ok_m_Grove_become Q) mut_become hg (hr.mono (by decide)) Q.b_m_Grove_become pass0 (pv 0) (pv 4)))))))
abbrev n_law_made : List Str := ["_law_pot_here", "_law_state"]
theorem sc_law_made : FnScope n_law_made ["_law_pot_here", "_law_state"] (defScope s_law_made) := ⟨rfl, rfl, rfl, by decide +kernel, rfl, by decide +kernel, by decide +kernel⟩
theorem ok_law_made (Q : Fx G mg b0) : TA.FnG P w G.K mg b0 CX0 5 Q.a_law_made Q.fd_law_made ["_law_pot_here", "_law_state"] (spV G [0] true 2 f_law_made) :=
  fnV (S := d_law_made) (N := n_law_made) Q.F_law_made sc_law_made (by decide) (by decide) fun cd B ou s H E x hg hr =>
    (vss_cons (vs_if (vt_w (vw_and (vt_not (vt_truth x (ve_sub x (ve_var (pv 1)) ve_int))) (vw_and1 (vt_cmp (op_eqAll x) (prim_eqA x.K) (ve_call (ro := true) (k := 1) (ok_law_take Q) hg (hr.mono (by decide)) (by rfl) Q.g_law_take Q.F_law_take.kp Q.b_law_take pass0 [0] (vl_cons (ve_ref (pv 0)) (vl_cons ve_int vl_nil))) ve_int (nomark _))))) (vss_one (vs_ret (ve_makeD (c := 16) (ro := true) (k := 3) Q.M_m_Grove_init (ok_m_Grove_init Q) hg (hr.mono (by decide)) (by rfl) Q.gC_Grove Q.bd_m_Grove_init Q.v_m_Grove_init (rds_dB false) pass0 (vl_cons (ve_sub x (ve_var (pv 1)) ve_int) vl_nil))))
    vss_nil)
    (vss_one (vs_ret (ve_make (c := 16) (ro := true) (k := 3) Q.M_m_Grove_init (ok_m_Grove_init Q) hg (hr.mono (by decide)) (by rfl) Q.gC_Grove Q.b_m_Grove_init pass0 (vl_cons (ve_sub x (ve_var (pv 1)) ve_int) (vl_cons (ve_sub x (ve_var (pv 1)) ve_int) vl_nil))))))
abbrev n_m_Grove_put : List Str := ["self", "a", "b", "strength", "number", "ends"]
theorem sc_m_Grove_put : FnScope n_m_Grove_put ["self", "a", "b", "strength"] (defScope s_m_Grove_put) := ⟨rfl, rfl, rfl, by decide +kernel, rfl, by decide +kernel, by decide +kernel⟩
theorem ok_m_Grove_put (Q : Fx G mg b0) : TA.FnG P w G.K mg b0 CX0 5 Q.a_m_Grove_put Q.fd_m_Grove_put ["self", "a", "b", "strength"] (spV G [0] true 4 f_m_Grove_put) :=
  fnV (S := d_m_Grove_put) (N := n_m_Grove_put) Q.F_m_Grove_put sc_m_Grove_put (by decide) (by decide) fun cd B ou s H E x hg hr =>
    (vss_cons (vs_expr (ve_call (ro := true) (k := 4) (ok_refuse_two_places Q) hg (hr.mono (by decide)) (by rfl) Q.g_refuse_two_places Q.F_refuse_two_places.kp Q.b_refuse_two_places pass0 [] (vl_cons (ve_methR0 (kx := (.sub 0)) (ro := true) (k := 2) x.K Q.cl_Grove Q.M_m_Grove_laid_out (ok_m_Grove_laid_out Q) hg (hr.mono (by decide)) Q.b_m_Grove_laid_out pass0 (ve_var (pv 0))) (vl_cons (ve_var (pv 1)) (vl_cons (ve_var (pv 2)) vl_nil)))))
    (vss_cons (vs_expr (ve_call (ro := true) (k := 3) (ok_refuse_strength Q) hg (hr.mono (by decide)) (by rfl) Q.g_refuse_strength Q.F_refuse_strength.kp Q.b_refuse_strength pass0 [] (vl_cons (ve_var (pv 3)) vl_nil)))
    (vss_cons (vs_if (vt_cmp op_ge prim_ge (ve_callB call_lenAll (prim_len x.K) (by rfl) Q.m_len (by decide +kernel) (vl_cons (ve_fld x.K Q.cl_Grove Q.na_Grove_standing (ve_var (pv 0))) vl_nil)) (ve_if (vt_truth x (ve_fld x.K Q.cl_Grove Q.na_Grove_one_way (ve_var (pv 0)))) (ve_gi (by rfl) Q.c_MOST_LANES) (ve_gi (by rfl) Q.c_MOST_TIES)) (nomark _)) (vss_one vs_never)
    vss_nil)
    (vss_cons (vs_set (i := 4) sc_m_Grove_put.nd rfl (by first | exact .inl rfl | exact .inr rfl) (ve_fld x.K Q.cl_Grove Q.na_Grove_given (ve_var (pv 0))))
    (vss_cons (vs_augF x.K Q.cl_Grove Q.na_Grove_given (pv 0) ve_int in_add rAdd_of)
    (vss_cons (vs_set (i := 5) sc_m_Grove_put.nd rfl (by first | exact .inl rfl | exact .inr rfl) (ve_if (vt_truth x (ve_fld x.K Q.cl_Grove Q.na_Grove_one_way (ve_var (pv 0)))) (ve_tup (vl_cons (ve_var (pv 1)) (vl_cons (ve_var (pv 2)) vl_nil))) (ve_tup (vl_cons (ve_callB (call_minAll x) (prim_min x.K) (by rfl) Q.m_min (by decide +kernel) (vl_cons (ve_var (pv 1)) (vl_cons (ve_var (pv 2)) vl_nil))) (vl_cons (ve_callB (call_maxAll x) (prim_max x.K) (by rfl) Q.m_max (by decide +kernel) (vl_cons (ve_var (pv 1)) (vl_cons (ve_var (pv 2)) vl_nil))) vl_nil)))))
    (vss_cons (vs_methM x.K Q.cl_Grove Q.M_m_Grove_become (ok_m_Grove_become Q) mut_become hg (hr.mono (by decide)) Q.b_m_Grove_become pass0 (pv 0) (ve_opV op_addAll prim_add (ve_fld x.K Q.cl_Grove Q.na_Grove_standing (ve_var (pv 0))) (ve_lst (vl_cons (ve_tup (vl_cons (ve_var (pv 4)) (vl_cons (ve_sub x (ve_var (pv 5)) ve_int) (vl_cons (ve_sub x (ve_var (pv 5)) ve_int) (vl_cons (ve_var (pv 3)) vl_nil))))) vl_nil))))
    (vss_one (vs_ret (ve_var (pv 4)))))))))))
abbrev n_law_put : List Str := ["_law_pot_here", "_law_grove", "_law_state", "_law_a", "_law_b", "_law_strength_here", "_law_told"]
theorem sc_law_put : FnScope n_law_put ["_law_pot_here", "_law_grove", "_law_state"] (defScope s_law_put) := ⟨rfl, rfl, rfl, by decide +kernel, rfl, by decide +kernel, by decide +kernel⟩
theorem ok_law_put (Q : Fx G mg b0) : TA.FnG P w G.K mg b0 CX0 6 Q.a_law_put Q.fd_law_put ["_law_pot_here", "_law_grove", "_law_state"] (spV G [0, 1, 2] true 3 f_law_put) :=
  fnV (S := d_law_put) (N := n_law_put) Q.F_law_put sc_law_put (by decide) (by decide) fun cd B ou s H E x hg hr =>
    (vss_cons (vs_set (i := 3) sc_law_put.nd rfl (by first | exact .inl rfl | exact .inr rfl) (ve_call (ro := true) (k := 1) (ok_law_take Q) hg (hr.mono (by decide)) (by rfl) Q.g_law_take Q.F_law_take.kp Q.b_law_take pass0 [0] (vl_cons (ve_ref (pv 0)) (vl_cons (ve_sub x (ve_var (pv 2)) ve_int) vl_nil))))
    (vss_cons (vs_set (i := 4) sc_law_put.nd rfl (by first | exact .inl rfl | exact .inr rfl) (ve_op op_mod prim_mod (ve_opV op_addAll prim_add (ve_opV op_addAll prim_add (ve_var (pv 3)) ve_int) (ve_call (ro := true) (k := 1) (ok_law_take Q) hg (hr.mono (by decide)) (by rfl) Q.g_law_take Q.F_law_take.kp Q.b_law_take pass0 [0] (vl_cons (ve_ref (pv 0)) (vl_cons (ve_op op_sub prim_sub (ve_sub x (ve_var (pv 2)) ve_int) ve_int) vl_nil)))) (ve_sub x (ve_var (pv 2)) ve_int)))
    (vss_cons (vs_set (i := 5) sc_law_put.nd rfl (by first | exact .inl rfl | exact .inr rfl) (ve_call (ro := true) (k := 2) (ok_law_strength Q) hg (hr.mono (by decide)) (by rfl) Q.g_law_strength Q.F_law_strength.kp Q.b_law_strength pass0 [0] (vl_cons (ve_ref (pv 0)) vl_nil)))
    (vss_cons (vs_set (i := 6) sc_law_put.nd rfl (by first | exact .inl rfl | exact .inr rfl) (ve_meth (ro := true) (k := 5) x.K Q.cl_Grove Q.M_m_Grove_put (ok_m_Grove_put Q) hg (hr.mono (by decide)) Q.b_m_Grove_put pass0 (vp_name (pv 1)) (pat_cons (ve_var (pv 3)) (pat_cons (ve_var (pv 4)) (pat_cons (ve_var (pv 5)) pat_nil)))))
    (vss_cons (vs_if (vt_not (vt_truth x (ve_sub x (ve_var (pv 2)) ve_int))) (vss_one (vs_par (i := 3) (j := 4) x sc_law_put.nd rfl rfl (by decide) rfl rfl (vl_cons (ve_callB (call_minAll x) (prim_min x.K) (by rfl) Q.m_min (by decide +kernel) (vl_cons (ve_var (pv 3)) (vl_cons (ve_var (pv 4)) vl_nil))) (vl_cons (ve_callB (call_maxAll x) (prim_max x.K) (by rfl) Q.m_max (by decide +kernel) (vl_cons (ve_var (pv 3)) (vl_cons (ve_var (pv 4)) vl_nil))) vl_nil)) (by rfl)))
    vss_nil)
    (vss_cons (vs_expr (ve_call (ro := true) (k := 2) (ok_law_did Q) hg (hr.mono (by decide)) (by rfl) Q.g_law_did Q.F_law_did.kp Q.b_law_did pass0 [2] (vl_cons (ve_ref (pv 2)) (vl_cons (ve_own (ve_sub x (ve_var (pv 2)) ve_int)) (vl_cons (ve_tup (vl_cons (ve_var (pv 3)) (vl_cons (ve_var (pv 4)) (vl_cons (ve_var (pv 5)) vl_nil)))) vl_nil)))))
    (vss_cons (vs_augIt (i := 2) (oo := (fun i j => i + j)) x ip_add (pv 2) ve_int ve_int)
    (vss_one (vs_ret (ve_cmp (op_eqAll x) (prim_eqA x.K) (ve_callB (call_reprXD hg x.un64) (prim_reprX x.K) (by rfl) Q.m_repr (by decide +kernel) (vl_cons (ve_var (pv 6)) vl_nil)) (ve_callB (call_reprXD hg x.un64) (prim_reprX x.K) (by rfl) Q.m_repr (by decide +kernel) (vl_cons (ve_op op_sub prim_sub (ve_sub x (ve_var (pv 2)) ve_int) ve_int) vl_nil)) (nomark _)))))))))))
abbrev n_law_deed : List Str := ["_law_pot_here", "_law_grove", "_law_state", "_law_most", "_law_way", "_law_held", "_law_number", "_law_a", "_law_b", "_law_before", "_law_strength_here"]
theorem sc_law_deed : FnScope n_law_deed ["_law_pot_here", "_law_grove", "_law_state", "_law_most"] (defScope s_law_deed) := ⟨rfl, rfl, rfl, by decide +kernel, rfl, by decide +kernel, by decide +kernel⟩
theorem ok_law_deed (Q : Fx G mg b0) : TA.FnG P w G.K mg b0 CX0 7 Q.a_law_deed Q.fd_law_deed ["_law_pot_here", "_law_grove", "_law_state", "_law_most"] (spV G [1, 2, 0] true 4 f_law_deed) :=
  fnV (S := d_law_deed) (N := n_law_deed) Q.F_law_deed sc_law_deed (by decide) (by decide) fun cd B ou s H E x hg hr =>
    (vss_cons (vs_set (i := 4) sc_law_deed.nd rfl (by first | exact .inl rfl | exact .inr rfl) (ve_call (ro := true) (k := 1) (ok_law_take Q) hg (hr.mono (by decide)) (by rfl) Q.g_law_take Q.F_law_take.kp Q.b_law_take pass0 [0] (vl_cons (ve_ref (pv 0)) (vl_cons ve_int vl_nil))))
    (vss_cons (vs_set (i := 5) sc_law_deed.nd rfl (by first | exact .inl rfl | exact .inr rfl) (ve_callB (call_sortedA x) (prim_sortedA x.K) (by rfl) Q.m_sorted (by decide +kernel) (vl_cons (ve_sub x (ve_var (pv 2)) ve_int) vl_nil)))
    (vss_cons (vs_if (vt_w (vw_and (vt_cmp (op_eqAll x) (prim_eqA x.K) (ve_var (pv 4)) ve_int (nomark _)) (vw_and1 (vt_cmp (op_neAll x) (prim_neA x.K) (ve_sub x (ve_var (pv 2)) ve_int) (ve_lst vl_nil) (nomark _))))) (vss_one (vs_ret (ve_call (ro := true) (k := 2) (ok_law_gone_back Q) hg (hr.mono (by decide)) (by rfl) Q.g_law_gone_back Q.F_law_gone_back.kp Q.b_law_gone_back pass0 [1, 2] (vl_cons (ve_ref (pv 1)) (vl_cons (ve_ref (pv 2)) vl_nil)))))
    vss_nil)
    (vss_cons (vs_if (vt_w (vw_and (vt_cmp (op_eqAll x) (prim_eqA x.K) (ve_var (pv 4)) ve_int (nomark _)) (vw_and1 (vt_cmp (op_neAll x) (prim_neA x.K) (ve_sub x (ve_var (pv 2)) ve_int) (ve_lst vl_nil) (nomark _))))) (vss_one (vs_ret (ve_call (ro := true) (k := 2) (ok_law_gone_on Q) hg (hr.mono (by decide)) (by rfl) Q.g_law_gone_on Q.F_law_gone_on.kp Q.b_law_gone_on pass0 [1, 2] (vl_cons (ve_ref (pv 1)) (vl_cons (ve_ref (pv 2)) vl_nil)))))
    vss_nil)
    (vss_cons (vs_if (vt_w (vw_or (vt_cmp (op_eqAll x) (prim_eqA x.K) (ve_var (pv 5)) (ve_lst vl_nil) (nomark _)) (vw_or1 (vt_w (vw_and (vt_cmp op_gt prim_gt (ve_var (pv 4)) ve_int (nomark _)) (vw_and1 (vt_cmp op_lt prim_lt (ve_callB call_lenAll (prim_len x.K) (by rfl) Q.m_len (by decide +kernel) (vl_cons (ve_var (pv 5)) vl_nil)) (ve_var (pv 3)) (nomark _)))))))) (vss_one (vs_ret (ve_or x (ve_cmp (op_eqAll x) (prim_eqA x.K) (ve_sub x (ve_var (pv 2)) ve_int) ve_int (nomark _)) (ve_one (ve_call (ro := true) (k := 6) (ok_law_put Q) hg (hr.mono (by decide)) (by rfl) Q.g_law_put Q.F_law_put.kp Q.b_law_put pass0 [0, 1, 2] (vl_cons (ve_ref (pv 0)) (vl_cons (ve_ref (pv 1)) (vl_cons (ve_ref (pv 2)) vl_nil))))))))
    vss_nil)
    (vss_cons (vs_set (i := 6) sc_law_deed.nd rfl (by first | exact .inl rfl | exact .inr rfl) (ve_sub x (ve_var (pv 5)) (ve_call (ro := true) (k := 1) (ok_law_take Q) hg (hr.mono (by decide)) (by rfl) Q.g_law_take Q.F_law_take.kp Q.b_law_take pass0 [0] (vl_cons (ve_ref (pv 0)) (vl_cons (ve_callB call_lenAll (prim_len x.K) (by rfl) Q.m_len (by decide +kernel) (vl_cons (ve_var (pv 5)) vl_nil)) vl_nil)))))
    (vss_cons (vs_if (vt_cmp (op_eqAll x) (prim_eqA x.K) (ve_op op_mod prim_mod (ve_var (pv 4)) ve_int) ve_int (nomark _)) (vss_cons (vs_expr (ve_call (ro := true) (k := 2) (ok_law_did Q) hg (hr.mono (by decide)) (by rfl) Q.g_law_did Q.F_law_did.kp Q.b_law_did pass0 [2] (vl_cons (ve_ref (pv 2)) (vl_cons (ve_var (pv 6)) (vl_cons ve_non vl_nil)))))
    (vss_one (vs_ret (ve_cmp op_isN prim_isN (ve_meth (ro := true) (k := 3) x.K Q.cl_Grove Q.M_m_Grove_take (ok_m_Grove_take Q) hg (hr.mono (by decide)) Q.b_m_Grove_take pass0 (vp_name (pv 1)) (pat_cons (ve_var (pv 6)) pat_nil)) ve_non (nomark _)))))
    vss_nil)
    (vss_cons (vs_unp x (ve_sub x (ve_sub x (ve_var (pv 2)) ve_int) (ve_var (pv 6))) (vgs_cons (vg_name (i := 7) sc_law_deed.nd rfl (by first | exact .inl rfl | exact .inr rfl)) (vgs_cons (vg_name (i := 8) sc_law_deed.nd rfl (by first | exact .inl rfl | exact .inr rfl)) (vgs_cons (vg_name (i := 9) sc_law_deed.nd rfl (by first | exact .inl rfl | exact .inr rfl)) vgs_nil))))
    (vss_cons (vs_set (i := 10) sc_law_deed.nd rfl (by first | exact .inl rfl | exact .inr rfl) (ve_sub x (ve_lst (vl_cons (ve_var (pv 9)) (vl_cons (ve_call (ro := true) (k := 2) (ok_law_strength Q) hg (hr.mono (by decide)) (by rfl) Q.g_law_strength Q.F_law_strength.kp Q.b_law_strength pass0 [0] (vl_cons (ve_ref (pv 0)) vl_nil)) vl_nil))) (ve_callTy call_int1 prim_int (by rfl) Q.m_int (by decide +kernel) (vl_cons (ve_cmp op_gt prim_gt (ve_call (ro := true) (k := 1) (ok_law_take Q) hg (hr.mono (by decide)) (by rfl) Q.g_law_take Q.F_law_take.kp Q.b_law_take pass0 [0] (vl_cons (ve_ref (pv 0)) (vl_cons ve_int vl_nil))) ve_int (nomark _)) vl_nil))))
    (vss_cons (vs_expr (ve_call (ro := true) (k := 2) (ok_law_did Q) hg (hr.mono (by decide)) (by rfl) Q.g_law_did Q.F_law_did.kp Q.b_law_did pass0 [2] (vl_cons (ve_ref (pv 2)) (vl_cons (ve_var (pv 6)) (vl_cons (ve_tup (vl_cons (ve_var (pv 7)) (vl_cons (ve_var (pv 8)) (vl_cons (ve_var (pv 10)) vl_nil)))) vl_nil)))))
    (vss_one (vs_ret (ve_cmp op_isN prim_isN (ve_meth (ro := true) (k := 4) x.K Q.cl_Grove Q.M_m_Grove_strengthen (ok_m_Grove_strengthen Q) hg (hr.mono (by decide)) Q.b_m_Grove_strengthen pass0 (vp_name (pv 1)) (pat_cons (ve_var (pv 6)) (pat_cons (ve_var (pv 10)) pat_nil))) ve_non (nomark _))))))))))))))
abbrev n_law : List Str := ["_law_script", "_law_pot_here", "_law_state", "_law_grove", "_law_k"]
theorem sc_law : FnScope n_law ["_law_script"] (defScope s_law) := ⟨rfl, rfl, rfl, by decide +kernel, rfl, by decide +kernel, by decide +kernel⟩
theorem ok_law (Q : Fx G mg b0) : TA.FnG P w G.K mg b0 CX0 8 Q.a_law Q.fd_law ["_law_script"] (spV G [] true 1 f_law) :=
  fnV (S := d_law) (N := n_law) Q.F_law sc_law (by decide) (by decide) fun cd B ou s H E x hg hr =>
    (vss_cons (vs_set (i := 1) sc_law.nd rfl (by first | exact .inl rfl | exact .inr rfl) (ve_call (ro := true) (k := 2) (ok_law_pot Q) hg (hr.mono (by decide)) (by rfl) Q.g_law_pot Q.F_law_pot.kp Q.b_law_pot pass0 [] (vl_cons (ve_var (pv 0)) (vl_cons ve_int vl_nil))))
    (vss_cons (vs_set (i := 2) sc_law.nd rfl (by first | exact .inl rfl | exact .inr rfl) (ve_call (ro := true) (k := 2) (ok_law_begun Q) hg (hr.mono (by decide)) (by rfl) Q.g_law_begun Q.F_law_begun.kp Q.b_law_begun pass0 [1] (vl_cons (ve_ref (pv 1)) (vl_cons ve_int vl_nil))))
    (vss_cons (vs_set (i := 3) sc_law.nd rfl (by first | exact .inl rfl | exact .inr rfl) (ve_call (ro := true) (k := 5) (ok_law_made Q) hg (hr.mono (by decide)) (by rfl) Q.g_law_made Q.F_law_made.kp Q.b_law_made pass0 [1] (vl_cons (ve_ref (pv 1)) (vl_cons (ve_var (pv 2)) vl_nil))))
    (vss_cons (vs_if (vt_not (vt_truth x (ve_call (ro := true) (k := 2) (ok_law_stands Q) hg (hr.mono (by decide)) (by rfl) Q.g_law_stands Q.F_law_stands.kp Q.b_law_stands pass0 [] (vl_cons (ve_var (pv 3)) (vl_cons (ve_var (pv 2)) vl_nil))))) (vss_one (vs_ret ve_bl))
    vss_nil)
    (vss_cons (vs_for (g := fun b => (gSet (.pr b) 4)) x PassesOwn.never (vi_range2 (by rfl) Q.m_range ve_int (ve_callB (call_maxAll x) (prim_max x.K) (by rfl) Q.m_max (by decide +kernel) (vl_cons ve_int (vl_cons (ve_callB (call_minAll x) (prim_min x.K) (by rfl) Q.m_min (by decide +kernel) (vl_cons ve_int (vl_cons (ve_callB call_lenAll (prim_len x.K) (by rfl) Q.m_len (by decide +kernel) (vl_cons (ve_var (pv 0)) vl_nil)) vl_nil))) vl_nil)))) (fun b => (vg_name (i := 4) sc_law.nd rfl (by first | exact .inl rfl | exact .inr rfl))) (vss_one (vs_if (vt_w (vw_or (vt_not (vt_truth x (ve_callT (J := [1, 2]) (jt := 0) (ro := true) (k := 7) (ok_law_deed Q) hg (hr.mono (by decide)) (by rfl) Q.g_law_deed Q.F_law_deed.kp Q.b_law_deed pass0 [3, 2] (vl_cons (ve_call (ro := true) (k := 2) (ok_law_pot Q) hg (hr.mono (by decide)) (by rfl) Q.g_law_pot Q.F_law_pot.kp Q.b_law_pot pass0 [] (vl_cons (ve_var (pv 0)) (vl_cons (ve_var (pv 4)) vl_nil))) (vl_cons (ve_ref (pv 3)) (vl_cons (ve_ref (pv 2)) (vl_cons (ve_sub x (ve_lst (vl_cons ve_int (vl_cons ve_int vl_nil))) (ve_callTy call_int1 prim_int (by rfl) Q.m_int (by decide +kernel) (vl_cons (ve_sub x (ve_var (pv 2)) ve_int) vl_nil))) vl_nil))))))) (vw_or1 (vt_not (vt_truth x (ve_call (ro := true) (k := 2) (ok_law_stands Q) hg (hr.mono (by decide)) (by rfl) Q.g_law_stands Q.F_law_stands.kp Q.b_law_stands pass0 [] (vl_cons (ve_var (pv 3)) (vl_cons (ve_var (pv 2)) vl_nil)))))))) (vss_one (vs_ret ve_bl))
    vss_nil)))
    (vss_one (vs_ret ve_bl)))))))
end
end VL
set_option maxHeartbeats 4000000
namespace VL
open PySem PySem.Spec PyProof.Rows L2
structure RxD (d : D) (w n : Nat) : Prop where
  py : ∃ p, d.pyX = some p ∧ p.showable = true ∧ p.depth ≤ n ∧ p.shown.length ≤ w
structure RxL (ds : List D) (w n : Nat) : Prop where
  py : ∃ ps, D.pyXL ds = some ps ∧ PyData.showableAll ps = true ∧ PyData.depthAll ps ≤ n ∧ (PyData.shownAll ps).length = ds.length ∧ ((PyData.shownAll ps).map (·.length)).sum ≤ w
theorem RxD.up {d : D} {w w' n n' : Nat} (h : RxD d w n) (hw : w ≤ w') (hn : n ≤ n') : RxD d w' n' := by
  obtain ⟨p, e, s, a, b⟩ := h.py
  exact ⟨p, e, s, Nat.le_trans a hn, Nat.le_trans b hw⟩
theorem rx_int {i : Int} {k : Nat} (k0 : 0 < k) (hk : k ≤ 500) (h : i.natAbs < 10 ^ k) : RxD (.int i) (k + 1) 0 := ⟨.int i, by unfold D.pyX; rfl, by
  show decide (i.natAbs.log2 < 1920) = true
  refine decide_eq_true ?_
  by_cases z : i.natAbs = 0
  · rw [z]; decide
  · rw [Nat.log2_lt z]
    exact Nat.lt_of_lt_of_le h (Nat.le_trans (Nat.pow_le_pow_right (by decide) hk) (by decide +kernel)), Nat.le_refl _, by
  show (Str.ofString (toString i)).length ≤ k + 1
  rw [PySem.ofString_length]
  exact int_text_length_le10 k0 h⟩
theorem rx_all {w n : Nat} : ∀ {ds : List D}, (∀ d ∈ ds, RxD d w n) → RxL ds (w * ds.length) n
  | [], _ => ⟨[], by unfold D.pyXL; rfl, rfl, Nat.zero_le _, rfl, Nat.zero_le _⟩
  | d :: ds, h => by
    obtain ⟨p, e1, s1, a1, b1⟩ := (h d List.mem_cons_self).py
    obtain ⟨ps, e2, s2, a2, c2, b2⟩ := (rx_all (ds := ds) fun z hz => h z (List.mem_cons_of_mem _ hz)).py
    refine ⟨p :: ps, by unfold D.pyXL; rw [e1, e2], ?_, ?_, ?_, ?_⟩
    · show (p.showable && PyData.showableAll ps) = true
      rw [s1, s2]; rfl
    · show max p.depth (PyData.depthAll ps) ≤ n
      omega
    · show (p.shown :: PyData.shownAll ps).length = _
      rw [List.length_cons, c2, List.length_cons]
    · show ((p.shown :: PyData.shownAll ps).map (·.length)).sum ≤ _
      rw [List.map_cons, List.sum_cons, List.length_cons, Nat.mul_succ]
      omega
theorem rx_tup {ds : List D} {w n : Nat} (h : RxL ds w n) : RxD (.tup ds) (w + 2 * ds.length + 3) (n + 1) := by
  obtain ⟨ps, e, s, a, c, b⟩ := h.py
  refine ⟨.tuple ps, by unfold D.pyX; rw [e]; rfl, s, ?_, ?_⟩
  · show PyData.depthAll ps + 1 ≤ n + 1
    omega
  · show (tupleText (PyData.shownAll ps)).length ≤ _
    have := tupleText_len_le (PyData.shownAll ps)
    omega
theorem reprX_lst {ds : List D} {w n : Nat} (h : RxL ds w n) (hn : n ≤ 29) (hw : w + 2 * ds.length + 3 ≤ 16000000) : ∃ s, pReprX [.lst ds] = some (.str s) := by
  obtain ⟨ps, e, s, a, c, b⟩ := h.py
  refine ⟨(PyData.list ps).shown, ?_⟩
  have h1 : (PyData.list ps).showable = true := s
  have h2 : (PyData.list ps).depth ≤ 30 := by show PyData.depthAll ps + 1 ≤ 30; omega
  have h3 : (PyData.list ps).shown.length ≤ sizeLine := by
    show (listText (PyData.shownAll ps)).length ≤ _
    have := listText_len_le (PyData.shownAll ps)
    rw [sizeLine_eq]
    omega
  unfold pReprX
  dsimp only
  rw [e]
  dsimp only
  rw [if_pos (by rw [sl_eq, h1, decide_eq_true h2, decide_eq_true h3]; rfl)]
theorem reprX_int {i : Int} {k : Nat} (hk : k ≤ 200) (h : i.natAbs < 10 ^ k) : ∃ s, pReprX [.int i] = some (.str s) := by
  obtain ⟨p, e, s, _⟩ := (rx_int (i := i) (k := 200) (by decide) (by decide) (Nat.lt_of_lt_of_le h (Nat.pow_le_pow_right (by decide) hk))).py
  unfold D.pyX at e
  cases e
  have s : decide (i.natAbs.log2 < 1920) = true := s
  exact ⟨toString i, by unfold pReprX; dsimp only; rw [sl_eq, if_pos s]⟩
end VL
set_option maxHeartbeats 4000000
namespace GV
abbrev V3 := Nat × Nat × Nat
abbrev Tis := List (Nat × V3)
abbrev E3 := Nat × Option V3 × Option V3
def lk : Tis → Nat → Option V3
  | [], _ => none
  | p :: S, x => if p.1 = x then some p.2 else lk S x
theorem lk_cons (p : Nat × V3) (S : Tis) (x : Nat) : lk (p :: S) x = if p.1 = x then some p.2 else lk S x := rfl
def Up (S : Tis) : Prop := S.Pairwise (fun p q => p.1 < q.1)
def Nd (S : Tis) : Prop := (S.map (·.1)).Nodup
def u1 (h : Nat → Option V3) (x : Nat) (o : Option V3) : Nat → Option V3 := fun y => if y = x then o else h y
theorem Up.nd {S : Tis} (h : Up S) : Nd S := by
  unfold Nd
  rw [List.nodup_iff_pairwise_ne, List.pairwise_map]
  exact h.imp fun h => Nat.ne_of_lt h
theorem lk_mem {S : Tis} {x : Nat} {v : V3} (h : lk S x = some v) : (x, v) ∈ S := by
  induction S with
  | nil => cases h
  | cons p S ih =>
    unfold lk at h
    by_cases z : p.1 = x
    · rw [if_pos z] at h
      cases h
      rw [← z]
      exact List.mem_cons_self
    · rw [if_neg z] at h
      exact List.mem_cons_of_mem _ (ih h)
theorem lk_of {S : Tis} (nd : Nd S) {x : Nat} {v : V3} (h : (x, v) ∈ S) : lk S x = some v := by
  induction S with
  | nil => cases h
  | cons p S ih =>
    unfold Nd at nd
    rw [List.map_cons, List.nodup_cons] at nd
    unfold lk
    rcases List.mem_cons.mp h with h | h
    · rw [← h, if_pos rfl]
    · have : p.1 ≠ x := fun z => nd.1 (by rw [z]; exact List.mem_map.mpr ⟨_, h, rfl⟩)
      rw [if_neg this]
      exact ih nd.2 h
theorem len_of_ext {S T : Tis} (hS : Nd S) (hT : Nd T) (h : ∀ x, lk S x = lk T x) : S.Perm T := by
  have nS : S.Nodup := by
    unfold Nd at hS
    rw [List.nodup_iff_pairwise_ne, List.pairwise_map] at hS
    rw [List.nodup_iff_pairwise_ne]
    exact hS.imp fun h e => h (by rw [e])
  have nT : T.Nodup := by
    unfold Nd at hT
    rw [List.nodup_iff_pairwise_ne, List.pairwise_map] at hT
    rw [List.nodup_iff_pairwise_ne]
    exact hT.imp fun h e => h (by rw [e])
  refine (List.perm_ext_iff_of_nodup nS nT).mpr fun p => ?_
  exact ⟨fun m => lk_mem ((h p.1).symm.trans (lk_of hS m)), fun m => lk_mem ((h p.1).trans (lk_of hT m))⟩
def putA : Tis → Nat → V3 → Tis
  | [], x, v => [(x, v)]
  | p :: S, x, v => if p.1 = x then (x, v) :: S else p :: putA S x v
def delA (S : Tis) (x : Nat) : Tis := S.filter fun p => decide (p.1 ≠ x)
theorem putA_keys {S : Tis} {x : Nat} {v : V3} {y : Nat} : y ∈ (putA S x v).map (·.1) ↔ y = x ∨ y ∈ S.map (·.1) := by
  induction S with
  | nil => simp [putA]
  | cons p S ih =>
    unfold putA
    by_cases z : p.1 = x
    · rw [if_pos z]
      simp [z]
    · rw [if_neg z, List.map_cons, List.mem_cons, ih, List.map_cons, List.mem_cons]
      constructor
      · rintro (h | h | h)
        · exact .inr (.inl h)
        · exact .inl h
        · exact .inr (.inr h)
      · rintro (h | h | h)
        · exact .inr (.inl h)
        · exact .inl h
        · exact .inr (.inr h)
theorem putA_nd {S : Tis} {x : Nat} {v : V3} (h : Nd S) : Nd (putA S x v) := by
  induction S with
  | nil => simp [putA, Nd]
  | cons p S ih =>
    unfold Nd at h
    rw [List.map_cons, List.nodup_cons] at h
    unfold putA
    by_cases z : p.1 = x
    · rw [if_pos z]
      unfold Nd
      rw [List.map_cons, List.nodup_cons]
      exact ⟨by rw [← z]; exact h.1, h.2⟩
    · rw [if_neg z]
      unfold Nd
      rw [List.map_cons, List.nodup_cons]
      exact ⟨fun m => (putA_keys.mp m).elim z h.1, ih h.2⟩
theorem putA_lk {S : Tis} {x : Nat} {v : V3} (y : Nat) : lk (putA S x v) y = u1 (lk S) x (some v) y := by
  unfold u1
  induction S with
  | nil =>
    by_cases z : y = x
    · simp [putA, lk, z]
    · simp [putA, lk, z, Ne.symm z]
  | cons p S ih =>
    unfold putA
    by_cases z : p.1 = x
    · rw [if_pos z]
      by_cases w : y = x
      · simp [lk, w]
      · simp [lk, w, z, Ne.symm w]
    · rw [if_neg z]
      unfold lk
      by_cases w : p.1 = y
      · rw [if_pos w, if_pos w]
        rw [if_neg (fun e => z (w.trans e))]
      · rw [if_neg w, if_neg w, ih]
theorem delA_nd {S : Tis} {x : Nat} (h : Nd S) : Nd (delA S x) := h.sublist (List.filter_sublist.map _)
theorem delA_lk {S : Tis} {x : Nat} (y : Nat) : lk (delA S x) y = u1 (lk S) x none y := by
  unfold u1 delA
  induction S with
  | nil => simp [lk]
  | cons p S ih =>
    rw [List.filter_cons]
    by_cases z : p.1 = x
    · rw [if_neg (by simp [z]), ih]
      rw [lk_cons]
      by_cases w : y = x
      · simp [w]
      · rw [if_neg w, if_neg w, if_neg (by rw [z]; exact Ne.symm w)]
    · rw [if_pos (by simp [z])]
      rw [lk_cons, lk_cons]
      by_cases w : p.1 = y
      · rw [if_pos w, if_pos w, if_neg (fun e => z (w.trans e))]
      · rw [if_neg w, if_neg w, ih]
theorem snoc_up {S : Tis} {g : Nat} {v : V3} (h : Up S) (hg : ∀ p ∈ S, p.1 < g) : Up (S ++ [(g, v)]) := by
  unfold Up
  rw [List.pairwise_append]
  exact ⟨h, List.pairwise_singleton _ _, fun a ha b hb => by rw [List.mem_singleton.mp hb]; exact hg a ha⟩
theorem snoc_lk {S : Tis} {g : Nat} {v : V3} (hg : ∀ p ∈ S, p.1 < g) (y : Nat) : lk (S ++ [(g, v)]) y = u1 (lk S) g (some v) y := by
  unfold u1
  induction S with
  | nil =>
    by_cases z : y = g
    · simp [lk, z]
    · simp [lk, z, Ne.symm z]
  | cons p S ih =>
    have h1 := hg p List.mem_cons_self
    rw [List.cons_append]
    unfold lk
    by_cases w : p.1 = y
    · rw [if_pos w, if_pos w, if_neg (by omega)]
    · rw [if_neg w, if_neg w, ih fun q hq => hg q (List.mem_cons_of_mem _ hq)]
theorem erase_del {S : Tis} {i x : Nat} {v : V3} (h : Nd S) (e : S[i]? = some (x, v)) : S.eraseIdx i = delA S x := by
  unfold delA
  induction S generalizing i with
  | nil => simp at e
  | cons p S ih =>
    unfold Nd at h
    rw [List.map_cons, List.nodup_cons] at h
    rw [List.filter_cons]
    cases i with
    | zero =>
      simp at e
      subst e
      rw [if_neg (by simp), List.eraseIdx_cons_zero]
      refine (List.filter_eq_self.mpr fun q hq => ?_).symm
      simp only [ne_eq, decide_eq_true_eq]
      exact fun z => h.1 (by rw [← z]; exact List.mem_map.mpr ⟨q, hq, rfl⟩)
    | succ i =>
      have e' : S[i]? = some (x, v) := by simpa using e
      rw [if_pos, List.eraseIdx_cons_succ, ih h.2 e']
      simp only [ne_eq, decide_eq_true_eq]
      exact fun z => h.1 (by rw [z]; exact List.mem_map.mpr ⟨_, List.mem_of_getElem? e', rfl⟩)
theorem del_up {S : Tis} {x : Nat} (h : Up S) : Up (delA S x) := List.Pairwise.filter _ h
theorem set_lk {S : Tis} {i x : Nat} {v v' : V3} (h : Nd S) (e : S[i]? = some (x, v)) (y : Nat) : lk (S.set i (x, v')) y = u1 (lk S) x (some v') y := by
  unfold u1
  induction S generalizing i with
  | nil => simp at e
  | cons p S ih =>
    unfold Nd at h
    rw [List.map_cons, List.nodup_cons] at h
    cases i with
    | zero =>
      simp at e
      subst e
      rw [List.set_cons_zero]
      unfold lk
      by_cases w : x = y
      · rw [if_pos w, if_pos w.symm]
      · rw [if_neg w, if_neg w, if_neg (Ne.symm w)]
    | succ i =>
      have e' : S[i]? = some (x, v) := by simpa using e
      rw [List.set_cons_succ]
      unfold lk
      have pn : p.1 ≠ x := fun z => h.1 (by rw [z]; exact List.mem_map.mpr ⟨_, List.mem_of_getElem? e', rfl⟩)
      by_cases w : p.1 = y
      · rw [if_pos w, if_pos w, if_neg (fun z => pn (w.trans z))]
      · rw [if_neg w, if_neg w, ih h.2 e']
theorem set_keys {S : Tis} {i x : Nat} {v v' : V3} (e : S[i]? = some (x, v)) : (S.set i (x, v')).map (·.1) = S.map (·.1) := by
  induction S generalizing i with
  | nil => simp at e
  | cons p S ih =>
    cases i with
    | zero => simp at e; subst e; rfl
    | succ i => rw [List.set_cons_succ, List.map_cons, ih (by simpa using e), List.map_cons]
theorem set_up {S : Tis} {i x : Nat} {v v' : V3} (h : Up S) (e : S[i]? = some (x, v)) : Up (S.set i (x, v')) := by
  have k := set_keys (v' := v') e
  have h' : (S.map (·.1)).Pairwise (· < ·) := by rw [List.pairwise_map]; exact h
  rw [← k, List.pairwise_map] at h'
  exact h'
structure Ok (n g : Nat) (S : Tis) : Prop where
  up : Up S
  lt : ∀ p ∈ S, p.1 < g
  good : ∀ p ∈ S, p.2.1 < n ∧ p.2.2.1 < n ∧ p.2.1 ≠ p.2.2.1 ∧ p.2.2.2 < 10 ^ 60
  len : S.length ≤ 60
theorem Ok.mono {n g g' : Nat} {S : Tis} (h : Ok n g S) (hg : g ≤ g') : Ok n g' S := ⟨h.up, fun p hp => Nat.lt_of_lt_of_le (h.lt p hp) hg, h.good, h.len⟩
theorem Ok.nil {n g : Nat} : Ok n g [] := ⟨List.Pairwise.nil, fun _ h => (by cases h), fun _ h => (by cases h), Nat.zero_le _⟩
structure Stp (e : E3) (s t : Tis) : Prop where
  to : ∀ y, lk t y = u1 (lk s) e.1 e.2.2 y
  bk : ∀ y, lk s y = u1 (lk t) e.1 e.2.1 y
  ne : e.2.1 ≠ none ∨ e.2.2 ≠ none
theorem Stp.lt {e : E3} {s t : Tis} (h : Stp e s t) : lk t e.1 = e.2.2 := by rw [h.to]; exact if_pos rfl
theorem Stp.ls {e : E3} {s t : Tis} (h : Stp e s t) : lk s e.1 = e.2.1 := by rw [h.bk]; exact if_pos rfl
theorem Stp.of {x : Nat} {o : Option V3} {s t : Tis} (h : ∀ y, lk t y = u1 (lk s) x o y) (hne : lk s x ≠ none ∨ o ≠ none) : Stp (x, lk s x, o) s t := ⟨h, fun y => by
  show lk s y = if y = x then lk s x else lk t y
  by_cases z : y = x
  · rw [if_pos z, z]
  · rw [if_neg z, h]
    show lk s y = if y = x then o else lk s y
    rw [if_neg z], hne⟩
def Chb (n g : Nat) : Tis → List Tis → List E3 → Prop
  | _, [], [] => True
  | st, s :: bs, e :: dn => Stp e s st ∧ Ok n g s ∧ Chb n g s bs dn
  | _, _, _ => False
def Chu (n g : Nat) : Tis → List Tis → List E3 → Prop
  | _, [], [] => True
  | st, u :: us, e :: un => Stp e st u ∧ Ok n g u ∧ Chu n g u us un
  | _, _, _ => False
theorem Chb.mono {n g g' : Nat} (hg : g ≤ g') : ∀ {st : Tis} {bs : List Tis} {dn : List E3}, Chb n g st bs dn → Chb n g' st bs dn
  | _, [], [], _ => trivial
  | _, s :: bs, e :: dn, h => ⟨h.1, h.2.1.mono hg, Chb.mono hg h.2.2⟩
  | _, [], _ :: _, h => h.elim
  | _, _ :: _, [], h => h.elim
theorem Chb.len {n g : Nat} : ∀ {st : Tis} {bs : List Tis} {dn : List E3}, Chb n g st bs dn → bs.length = dn.length
  | _, [], [], _ => rfl
  | _, s :: bs, e :: dn, h => by rw [List.length_cons, List.length_cons, Chb.len h.2.2]
  | _, [], _ :: _, h => h.elim
  | _, _ :: _, [], h => h.elim
theorem Chu.len {n g : Nat} : ∀ {st : Tis} {bs : List Tis} {dn : List E3}, Chu n g st bs dn → bs.length = dn.length
  | _, [], [], _ => rfl
  | _, s :: bs, e :: dn, h => by rw [List.length_cons, List.length_cons, Chu.len h.2.2]
  | _, [], _ :: _, h => h.elim
  | _, _ :: _, [], h => h.elim
structure GI (n k g : Nat) (st : Tis) (bs us : List Tis) (S : Tis) (dn un : List E3) : Prop where
  ok : Ok n g st
  nd : Nd S
  eq : ∀ x, lk S x = lk st x
  cb : Chb n g st bs dn
  cu : Chu n g st us un
  few : bs.length + us.length ≤ k
theorem GI.start {n : Nat} : GI n 0 0 [] [] [] [] [] [] := ⟨Ok.nil, List.nodup_nil, fun _ => rfl, trivial, trivial, Nat.le_refl _⟩
section
variable {n k g : Nat} {st : Tis} {bs us : List Tis} {S : Tis} {dn un : List E3}
theorem GI.perm (h : GI n k g st bs us S dn un) : S.Perm st := len_of_ext h.nd h.ok.up.nd h.eq
theorem GI.did (h : GI n k g st bs us S dn un) {g' x : Nat} {o : Option V3} {st' S' : Tis} (hg : g ≤ g') (ok' : Ok n g' st') (l' : ∀ y, lk st' y = u1 (lk st) x o y) (nd' : Nd S') (lS : ∀ y, lk S' y = u1 (lk S) x o y) (hne : o = none → lk S x ≠ none) :
    GI n (k + 1) g' st' (st :: bs) [] S' ((x, lk S x, o) :: dn) [] where
  ok := ok'
  nd := nd'
  eq := fun y => by
    rw [lS, l']
    unfold u1
    by_cases z : y = x
    · rw [if_pos z, if_pos z]
    · rw [if_neg z, if_neg z, h.eq]
  cb := ⟨by
    rw [h.eq] at hne ⊢
    refine Stp.of l' ?_
    by_cases z : o = none
    · exact .inl (hne z)
    · exact .inr z, h.ok.mono hg, h.cb.mono hg⟩
  cu := trivial
  few := by have := h.few; simp; omega
theorem GI.back {s : Tis} {e : E3} (h : GI n k g st (s :: bs) us S (e :: dn) un) {S' : Tis} (nd' : Nd S') (lS : ∀ y, lk S' y = u1 (lk S) e.1 e.2.1 y) :
    GI n (k + 1) g s bs (st :: us) S' dn (e :: un) where
  ok := h.cb.2.1
  nd := nd'
  eq := fun y => by
    rw [lS, h.cb.1.bk y]
    unfold u1
    by_cases z : y = e.1
    · rw [if_pos z, if_pos z]
    · rw [if_neg z, if_neg z, h.eq]
  cb := h.cb.2.2
  cu := ⟨h.cb.1, h.ok, h.cu⟩
  few := by have := h.few; simp at this ⊢; omega
theorem GI.again {u : Tis} {e : E3} (h : GI n k g st bs (u :: us) S dn (e :: un)) {S' : Tis} (nd' : Nd S') (lS : ∀ y, lk S' y = u1 (lk S) e.1 e.2.2 y) :
    GI n (k + 1) g u (st :: bs) us S' (e :: dn) un where
  ok := h.cu.2.1
  nd := nd'
  eq := fun y => by
    rw [lS, h.cu.1.to y]
    unfold u1
    by_cases z : y = e.1
    · rw [if_pos z, if_pos z]
    · rw [if_neg z, if_neg z, h.eq]
  cb := ⟨h.cu.1, h.ok, h.cb⟩
  cu := h.cu.2.2
  few := by have := h.few; simp at this ⊢; omega
theorem GI.mono {k' : Nat} (h : GI n k g st bs us S dn un) (hk : k ≤ k') : GI n k' g st bs us S dn un := ⟨h.ok, h.nd, h.eq, h.cb, h.cu, Nat.le_trans h.few hk⟩
theorem Ok.snoc (h : Ok n g st) {v : V3} (hv : v.1 < n ∧ v.2.1 < n ∧ v.1 ≠ v.2.1 ∧ v.2.2 < 10 ^ 60) (hl : st.length < 60) : Ok n (g + 1) (st ++ [(g, v)]) where
  up := snoc_up h.up h.lt
  lt := fun p hp => by
    rcases List.mem_append.mp hp with hp | hp
    · have := h.lt p hp; omega
    · rw [List.mem_singleton.mp hp]; exact Nat.lt_succ_self _
  good := fun p hp => by
    rcases List.mem_append.mp hp with hp | hp
    · exact h.good p hp
    · rw [List.mem_singleton.mp hp]; exact hv
  len := by rw [List.length_append]; simp; omega
theorem Ok.del (h : Ok n g st) (x : Nat) : Ok n g (delA st x) where
  up := del_up h.up
  lt := fun p hp => h.lt p (List.mem_filter.mp hp).1
  good := fun p hp => h.good p (List.mem_filter.mp hp).1
  len := Nat.le_trans (List.length_filter_le _ _) h.len
theorem Ok.set (h : Ok n g st) {i x : Nat} {v v' : V3} (e : st[i]? = some (x, v)) (hv : v'.1 < n ∧ v'.2.1 < n ∧ v'.1 ≠ v'.2.1 ∧ v'.2.2 < 10 ^ 60) : Ok n g (st.set i (x, v')) where
  up := set_up h.up e
  lt := fun p hp => by
    rcases List.mem_or_eq_of_mem_set hp with hp | rfl
    · exact h.lt p hp
    · exact h.lt (x, v) (List.mem_of_getElem? e)
  good := fun p hp => by
    rcases List.mem_or_eq_of_mem_set hp with hp | rfl
    · exact h.good p hp
    · exact hv
  len := by rw [List.length_set]; exact h.len
end
end GV
set_option maxHeartbeats 4000000
namespace VL
open PySem PySem.Spec PyProof.Rows L2
def PotD (p : D) : Prop := ∃ a b : Int, p = .lst [.int a, .int b]
theorem take_ok {p : D} {m : Int} (hp : PotD p) (h0 : 0 < m) (h1 : m < 1073741824) : ∃ (d : Nat) (p' : D), PotD p' ∧ (d : Int) < m ∧ f_law_take [p, .int m] = some (nm d, [p']) := by
  obtain ⟨a, b, rfl⟩ := hp
  by_cases ha : 0 < a
  · have z1 := Int.emod_lt_of_pos a h0
    have z2 := Int.emod_nonneg a (b := m) (by omega)
    have e : ((a % m).toNat : Int) = a % m := by omega
    refine ⟨(a % m).toNat, .lst [.int (a / m), .int b], ⟨_, _, rfl⟩, by omega, ?_⟩
    simp! [f_law_take, d_law_take, ha, h0, h1, atI, ixN, e]
  · have z1 := Int.emod_lt_of_pos ((b * 39373 + 7919) % 2147483629 * ((b * 39373 + 7919) % 2147483629) % 2147483563 / 11) h0
    have z2 := Int.emod_nonneg ((b * 39373 + 7919) % 2147483629 * ((b * 39373 + 7919) % 2147483629) % 2147483563 / 11) (b := m) (by omega)
    have z3 := Int.emod_lt_of_pos (b * 39373 + 7919) (b := 2147483629) (by omega)
    have z4 := Int.emod_nonneg (b * 39373 + 7919) (b := 2147483629) (by omega)
    generalize hc : (b * 39373 + 7919) % 2147483629 = c at *
    refine ⟨(c * c % 2147483563 / 11 % m).toNat, .lst [.int a, .int c], ⟨_, _, rfl⟩, by omega, ?_⟩
    have e : ((c * c % 2147483563 / 11 % m).toNat : Int) = c * c % 2147483563 / 11 % m := by omega
    have z5 : -18446744073709551616 < c ∧ c < 18446744073709551616 := by omega
    simp! [f_law_take, d_law_take, ha, h0, h1, atI, ixN, e, hc, z5]
abbrev ln (p : Nat × Nat) : D := .tup [nm p.1, nm p.2]
theorem atomL_ln : ∀ qs : List (Nat × Nat), D.atomL (qs.map ln) = true
  | [] => rfl
  | q :: qs => by
    show (D.atom (ln q) && D.atomL (qs.map ln)) = true
    rw [atomL_ln qs]
    rfl
abbrev webD (n : Nat) (ps : List (Nat × Nat)) : D := .tup [nm n, .tup (ps.map ln)]
abbrev lsD (ss : List Nat) : D := .lst (ss.map nm)
theorem nth_ok (ns : List Int) (k : Nat) : ∃ c, f_law_nth [.scr ns, nm k] = some (.int c, []) := by
  by_cases h : k < ns.length
  · refine ⟨ns[k], ?_⟩
    have e : atI ns (k : Int) = some ns[k] := by rw [atI_nat, List.getElem?_eq_getElem h]
    have h' : (k : Int) < ns.length := by omega
    simp! [f_law_nth, d_law_nth, pLt, h, h', e]
  · refine ⟨0, ?_⟩
    have h' : ¬ (k : Int) < ns.length := by omega
    simp! [f_law_nth, d_law_nth, pLt, h, h']
theorem pot_ok (ns : List Int) {k : Nat} (hk : k ≤ 100) : ∃ p, PotD p ∧ f_law_pot [.scr ns, nm k] = some (p, []) := by
  obtain ⟨c, e⟩ := nth_ok ns k
  simp only [nm] at e
  have h1 : (101 : Int) * k < 18446744073709551616 := by omega
  have h : ∃ a b, f_law_pot [.scr ns, nm k] = some (.lst [.int a, .int b], []) := by
    simp! [f_law_pot, d_law_pot, e, sizeLine_eq]
  obtain ⟨a, b, h⟩ := h
  exact ⟨_, ⟨a, b, rfl⟩, h⟩
end VL
set_option maxHeartbeats 4000000
namespace VL
open PySem PySem.Spec PyProof.Rows L2
open GV (V3 Tis E3 lk Up Nd u1 Ok Chb Chu GI putA delA)
theorem sn : ((Str.ofString "places" = Str.ofString "one_way") = False) ∧
  ((Str.ofString "places" = Str.ofString "given") = False) ∧
  ((Str.ofString "places" = Str.ofString "standing") = False) ∧
  ((Str.ofString "places" = Str.ofString "before") = False) ∧
  ((Str.ofString "places" = Str.ofString "undone") = False) ∧
  ((Str.ofString "places" = Str.ofString "put") = False) ∧
  ((Str.ofString "places" = Str.ofString "take") = False) ∧
  ((Str.ofString "places" = Str.ofString "strengthen") = False) ∧
  ((Str.ofString "places" = Str.ofString "become") = False) ∧
  ((Str.ofString "places" = Str.ofString "back") = False) ∧
  ((Str.ofString "places" = Str.ofString "again") = False) ∧
  ((Str.ofString "places" = Str.ofString "ties") = False) ∧
  ((Str.ofString "places" = Str.ofString "most") = False) ∧
  ((Str.ofString "places" = Str.ofString "trees") = False) ∧
  ((Str.ofString "places" = Str.ofString "least") = False) ∧
  ((Str.ofString "places" = Str.ofString "laid_out") = False) ∧
  ((Str.ofString "places" = Str.ofString "strengths") = False) ∧
  ((Str.ofString "places" = Str.ofString "numbers") = False) ∧
  ((Str.ofString "places" = Str.ofString "spot_of") = False) ∧
  ((Str.ofString "one_way" = Str.ofString "places") = False) ∧
  ((Str.ofString "one_way" = Str.ofString "given") = False) ∧
  ((Str.ofString "one_way" = Str.ofString "standing") = False) ∧
  ((Str.ofString "one_way" = Str.ofString "before") = False) ∧
  ((Str.ofString "one_way" = Str.ofString "undone") = False) ∧
  ((Str.ofString "one_way" = Str.ofString "put") = False) ∧
  ((Str.ofString "one_way" = Str.ofString "take") = False) ∧
  ((Str.ofString "one_way" = Str.ofString "strengthen") = False) ∧
  ((Str.ofString "one_way" = Str.ofString "become") = False) ∧
  ((Str.ofString "one_way" = Str.ofString "back") = False) ∧
  ((Str.ofString "one_way" = Str.ofString "again") = False) ∧
  ((Str.ofString "one_way" = Str.ofString "ties") = False) ∧
  ((Str.ofString "one_way" = Str.ofString "most") = False) ∧
  ((Str.ofString "one_way" = Str.ofString "trees") = False) ∧
  ((Str.ofString "one_way" = Str.ofString "least") = False) ∧
  ((Str.ofString "one_way" = Str.ofString "laid_out") = False) ∧
  ((Str.ofString "one_way" = Str.ofString "strengths") = False) ∧
  ((Str.ofString "one_way" = Str.ofString "numbers") = False) ∧
  ((Str.ofString "one_way" = Str.ofString "spot_of") = False) ∧
  ((Str.ofString "given" = Str.ofString "places") = False) ∧
  ((Str.ofString "given" = Str.ofString "one_way") = False) ∧
  ((Str.ofString "given" = Str.ofString "standing") = False) ∧
  ((Str.ofString "given" = Str.ofString "before") = False) ∧
  ((Str.ofString "given" = Str.ofString "undone") = False) ∧
  ((Str.ofString "given" = Str.ofString "put") = False) ∧
  ((Str.ofString "given" = Str.ofString "take") = False) ∧
  ((Str.ofString "given" = Str.ofString "strengthen") = False) ∧
  ((Str.ofString "given" = Str.ofString "become") = False) ∧
  ((Str.ofString "given" = Str.ofString "back") = False) ∧
  ((Str.ofString "given" = Str.ofString "again") = False) ∧
  ((Str.ofString "given" = Str.ofString "ties") = False) ∧
  ((Str.ofString "given" = Str.ofString "most") = False) ∧
  ((Str.ofString "given" = Str.ofString "trees") = False) ∧
  ((Str.ofString "given" = Str.ofString "least") = False) ∧
  ((Str.ofString "given" = Str.ofString "laid_out") = False) ∧
  ((Str.ofString "given" = Str.ofString "strengths") = False) ∧
  ((Str.ofString "given" = Str.ofString "numbers") = False) ∧
  ((Str.ofString "given" = Str.ofString "spot_of") = False) ∧
  ((Str.ofString "standing" = Str.ofString "places") = False) ∧
  ((Str.ofString "standing" = Str.ofString "one_way") = False) ∧
  ((Str.ofString "standing" = Str.ofString "given") = False) ∧
  ((Str.ofString "standing" = Str.ofString "before") = False) ∧
  ((Str.ofString "standing" = Str.ofString "undone") = False) ∧
  ((Str.ofString "standing" = Str.ofString "put") = False) ∧
  ((Str.ofString "standing" = Str.ofString "take") = False) ∧
  ((Str.ofString "standing" = Str.ofString "strengthen") = False) ∧
  ((Str.ofString "standing" = Str.ofString "become") = False) ∧
  ((Str.ofString "standing" = Str.ofString "back") = False) ∧
  ((Str.ofString "standing" = Str.ofString "again") = False) ∧
  ((Str.ofString "standing" = Str.ofString "ties") = False) ∧
  ((Str.ofString "standing" = Str.ofString "most") = False) ∧
  ((Str.ofString "standing" = Str.ofString "trees") = False) ∧
  ((Str.ofString "standing" = Str.ofString "least") = False) ∧
  ((Str.ofString "standing" = Str.ofString "laid_out") = False) ∧
  ((Str.ofString "standing" = Str.ofString "strengths") = False) ∧
  ((Str.ofString "standing" = Str.ofString "numbers") = False) ∧
  ((Str.ofString "standing" = Str.ofString "spot_of") = False) ∧
  ((Str.ofString "before" = Str.ofString "places") = False) ∧
  ((Str.ofString "before" = Str.ofString "one_way") = False) ∧
  ((Str.ofString "before" = Str.ofString "given") = False) ∧
  ((Str.ofString "before" = Str.ofString "standing") = False) ∧
  ((Str.ofString "before" = Str.ofString "undone") = False) ∧
  ((Str.ofString "before" = Str.ofString "put") = False) ∧
  ((Str.ofString "before" = Str.ofString "take") = False) ∧
  ((Str.ofString "before" = Str.ofString "strengthen") = False) ∧
  ((Str.ofString "before" = Str.ofString "become") = False) ∧
  ((Str.ofString "before" = Str.ofString "back") = False) ∧
  ((Str.ofString "before" = Str.ofString "again") = False) ∧
  ((Str.ofString "before" = Str.ofString "ties") = False) ∧
  ((Str.ofString "before" = Str.ofString "most") = False) ∧
  ((Str.ofString "before" = Str.ofString "trees") = False) ∧
  ((Str.ofString "before" = Str.ofString "least") = False) ∧
  ((Str.ofString "before" = Str.ofString "laid_out") = False) ∧
  ((Str.ofString "before" = Str.ofString "strengths") = False) ∧
  ((Str.ofString "before" = Str.ofString "numbers") = False) ∧
  ((Str.ofString "before" = Str.ofString "spot_of") = False) ∧
  ((Str.ofString "undone" = Str.ofString "places") = False) ∧
  ((Str.ofString "undone" = Str.ofString "one_way") = False) ∧
  ((Str.ofString "undone" = Str.ofString "given") = False) ∧
  ((Str.ofString "undone" = Str.ofString "standing") = False) ∧
  ((Str.ofString "undone" = Str.ofString "before") = False) ∧
  ((Str.ofString "undone" = Str.ofString "put") = False) ∧
  ((Str.ofString "undone" = Str.ofString "take") = False) ∧
  ((Str.ofString "undone" = Str.ofString "strengthen") = False) ∧
  ((Str.ofString "undone" = Str.ofString "become") = False) ∧
  ((Str.ofString "undone" = Str.ofString "back") = False) ∧
  ((Str.ofString "undone" = Str.ofString "again") = False) ∧
  ((Str.ofString "undone" = Str.ofString "ties") = False) ∧
  ((Str.ofString "undone" = Str.ofString "most") = False) ∧
  ((Str.ofString "undone" = Str.ofString "trees") = False) ∧
  ((Str.ofString "undone" = Str.ofString "least") = False) ∧
  ((Str.ofString "undone" = Str.ofString "laid_out") = False) ∧
  ((Str.ofString "undone" = Str.ofString "strengths") = False) ∧
  ((Str.ofString "undone" = Str.ofString "numbers") = False) ∧
  ((Str.ofString "undone" = Str.ofString "spot_of") = False) := ⟨eq_false (by decide +kernel), eq_false (by decide +kernel), eq_false (by decide +kernel), eq_false (by decide +kernel), eq_false (by decide +kernel), eq_false (by decide +kernel), eq_false (by decide +kernel), eq_false (by decide +kernel), eq_false (by decide +kernel), eq_false (by decide +kernel), eq_false (by decide +kernel), eq_false (by decide +kernel), eq_false (by decide +kernel), eq_false (by decide +kernel), eq_false (by decide +kernel), eq_false (by decide +kernel), eq_false (by decide +kernel), eq_false (by decide +kernel), eq_false (by decide +kernel), eq_false (by decide +kernel), eq_false (by decide +kernel), eq_false (by decide +kernel), eq_false (by decide +kernel), eq_false (by decide +kernel), eq_false (by decide +kernel), eq_false (by decide +kernel), eq_false (by decide +kernel), eq_false (by decide +kernel), eq_false (by decide +kernel), eq_false (by decide +kernel), eq_false (by decide +kernel), eq_false (by decide +kernel), eq_false (by decide +kernel), eq_false (by decide +kernel), eq_false (by decide +kernel), eq_false (by decide +kernel), eq_false (by decide +kernel), eq_false (by decide +kernel), eq_false (by decide +kernel), eq_false (by decide +kernel), eq_false (by decide +kernel), eq_false (by decide +kernel), eq_false (by decide +kernel), eq_false (by decide +kernel), eq_false (by decide +kernel), eq_false (by decide +kernel), eq_false (by decide +kernel), eq_false (by decide +kernel), eq_false (by decide +kernel), eq_false (by decide +kernel), eq_false (by decide +kernel), eq_false (by decide +kernel), eq_false (by decide +kernel), eq_false (by decide +kernel), eq_false (by decide +kernel), eq_false (by decide +kernel), eq_false (by decide +kernel), eq_false (by decide +kernel), eq_false (by decide +kernel), eq_false (by decide +kernel), eq_false (by decide +kernel), eq_false (by decide +kernel), eq_false (by decide +kernel), eq_false (by decide +kernel), eq_false (by decide +kernel), eq_false (by decide +kernel), eq_false (by decide +kernel), eq_false (by decide +kernel), eq_false (by decide +kernel), eq_false (by decide +kernel), eq_false (by decide +kernel), eq_false (by decide +kernel), eq_false (by decide +kernel), eq_false (by decide +kernel), eq_false (by decide +kernel), eq_false (by decide +kernel), eq_false (by decide +kernel), eq_false (by decide +kernel), eq_false (by decide +kernel), eq_false (by decide +kernel), eq_false (by decide +kernel), eq_false (by decide +kernel), eq_false (by decide +kernel), eq_false (by decide +kernel), eq_false (by decide +kernel), eq_false (by decide +kernel), eq_false (by decide +kernel), eq_false (by decide +kernel), eq_false (by decide +kernel), eq_false (by decide +kernel), eq_false (by decide +kernel), eq_false (by decide +kernel), eq_false (by decide +kernel), eq_false (by decide +kernel), eq_false (by decide +kernel), eq_false (by decide +kernel), eq_false (by decide +kernel), eq_false (by decide +kernel), eq_false (by decide +kernel), eq_false (by decide +kernel), eq_false (by decide +kernel), eq_false (by decide +kernel), eq_false (by decide +kernel), eq_false (by decide +kernel), eq_false (by decide +kernel), eq_false (by decide +kernel), eq_false (by decide +kernel), eq_false (by decide +kernel), eq_false (by decide +kernel), eq_false (by decide +kernel), eq_false (by decide +kernel), eq_false (by decide +kernel), eq_false (by decide +kernel), eq_false (by decide +kernel)⟩
abbrev v3D (v : V3) : D := .tup [nm v.1, nm v.2.1, nm v.2.2]
abbrev tiD (p : Nat × V3) : D := .tup [nm p.1, nm p.2.1, nm p.2.2.1, nm p.2.2.2]
abbrev stL (S : Tis) : D := .lst (S.map tiD)
abbrev dK (S : Tis) : List Key := S.map fun p => Sum.inl (p.1 : Int)
abbrev dV (S : Tis) : List D := S.map fun p => v3D p.2
abbrev dD (S : Tis) : D := .dct (dK S) (dV S)
abbrev o3D : Option V3 → D
  | none => .non
  | some v => v3D v
abbrev enD (e : E3) : D := .tup [nm e.1, o3D e.2.1, o3D e.2.2]
abbrev staD (n : Nat) (ow : Bool) (S : Tis) (g : Nat) (dn un : List E3) : D := .lst [nm n, .bl ow, dD S, nm g, .lst (dn.reverse.map enD), .lst (un.reverse.map enD)]
abbrev groD (n : Nat) (ow : Bool) (g : Nat) (st : Tis) (bs us : List Tis) : D := .obj 16 ["places", "one_way", "given", "standing", "before", "undone"] [nm n, .bl ow, nm g, stL st, .lst (bs.reverse.map stL), .lst (us.reverse.map stL)]
theorem atomL_ti : ∀ S : Tis, D.atomL (S.map tiD) = true
  | [] => rfl
  | p :: S => by simp [D.atomL, D.atom, atomL_ti S]
theorem atomL_dV : ∀ S : Tis, D.atomL (dV S) = true
  | [] => rfl
  | p :: S => by simp [D.atomL, D.atom, atomL_dV S]
theorem o3_atom (o : Option V3) : (o3D o).atom = true := by cases o <;> simp [D.atom, D.atomL]
theorem atomL_en : ∀ l : List E3, D.atomL (l.map enD) = true
  | [] => rfl
  | e :: l => by simp [D.atomL, D.atom, o3_atom, atomL_en l]
theorem cut_lo (ds : List D) (k : Nat) : cutD ds none (some (k : Int)) = ds.take k := by
  unfold cutD
  rw [HT.sIx_none, HT.sIx_nat, List.drop_zero, Nat.sub_zero]
  by_cases h : k ≤ ds.length
  · rw [Nat.min_eq_left h]
  · rw [Nat.min_eq_right (by omega), List.take_of_length_le (Nat.le_refl _), List.take_of_length_le (by omega)]
theorem cut_hi (ds : List D) (k : Nat) : cutD ds (some (k : Int)) none = ds.drop k := by
  unfold cutD
  rw [HT.sIx_none, HT.sIx_nat]
  by_cases h : k ≤ ds.length
  · rw [Nat.min_eq_left h, List.take_of_length_le (by simp)]
  · rw [Nat.min_eq_right (by omega), List.drop_eq_nil_of_le (Nat.le_refl _), List.drop_eq_nil_of_le (by omega)]
    simp
theorem idx_nm {S : List Nat} {x : Nat} (h : x ∈ S) : ∃ j, S[j]? = some x ∧ (S.map fun (k : Nat) => V.int (k : Int)).findIdx? (fun z => eqV z (V.int (x : Int))) = some j := by
  have hx : ∃ z ∈ S.map (fun (k : Nat) => V.int (k : Int)), eqV z (V.int (x : Int)) = true := ⟨_, List.mem_map.mpr ⟨x, h, rfl⟩, by show ((x : Int) == (x : Int)) = true; simp⟩
  cases e : (S.map fun (k : Nat) => V.int (k : Int)).findIdx? (fun z => eqV z (V.int (x : Int))) with
  | none =>
    obtain ⟨z, hz, hz2⟩ := hx
    have := List.findIdx?_eq_none_iff.mp e z hz
    rw [hz2] at this
    cases this
  | some j =>
    obtain ⟨hj, p1, _⟩ := List.findIdx?_eq_some_iff_getElem.mp e
    refine ⟨j, ?_, rfl⟩
    rw [List.length_map] at hj
    rw [List.getElem_map] at p1
    have p1' : (((S[j] : Nat) : Int) == (x : Int)) = true := p1
    have : S[j] = x := by have := eq_of_beq p1'; omega
    rw [List.getElem?_eq_getElem hj, this]
theorem cut_3 (a b c d : D) : cutD [a, b, c, d] none (some 3) = [a, b, c] := by
  have := cut_lo [a, b, c, d] 3
  simpa using this
theorem ixN_nat {l j : Nat} (h : j < l) : ixN l (j : Int) = some j := by
  rw [ixN_of (by omega) (by simpa using h)]
  simp
section
variable {n g : Nat} {ow : Bool} {st : Tis} {bs us : List Tis}
theorem whole_ok (v : Int) : f_is_whole [.int v] = some (.bl true, []) := by simp! [f_is_whole, d_is_whole]
theorem init_ok (h1 : 1 ≤ n) (h2 : n ≤ 9) : f_m_Grove_init [.obj 16 [] [], nm n, .bl ow] = some (.non, [groD n ow 0 [] [] []]) := by
  have e : f_refuse_size [nm n] = some (.non, []) := by
    have := whole_ok (n : Int)
    have h3 : (1 : Int) ≤ n := by omega
    have h4 : (n : Int) ≤ 9 := by omega
    simp! [f_refuse_size, d_refuse_size, this, h3, h4]
  simp only [nm] at e
  simp! [f_m_Grove_init, d_m_Grove_init, sSetF_ap, opFld, putND, sn, e]
theorem ties_ok (hl : st.length ≤ 60) : f_m_Grove_ties [groD n ow g st bs us] = some (stL st, []) := by
  have := atomL_ti st
  simp! [f_m_Grove_ties, d_m_Grove_ties, pFld, xlk, sn, this]
theorem numbers_ok (hl : st.length ≤ 60) : f_m_Grove_numbers [groD n ow g st bs us] = some (lsD (st.map (·.1)), []) := by
  have lc := eLc_each (k := .sub 0) (src := iSeq (ePrim (pFld 16 "standing") (lCons (eVar 0) lNil))) (g := fun b => (gTupE 4 (gsCons (gSet (.pr b) 3) (gsCons (gSet (.pr b) 1) (gsCons (gSet (.pr b) 2) (gsCons (gSet (.pr b) 4) gsNil)))))) (t := tYesF) (f := d_m_Grove_numbers_1) (vs := [3, 1, 2, 4])
    (E := [some (.arg, groD n ow g st bs us), none, none, none, none]) (E1 := [some (.arg, groD n ow g st bs us), none, none, none, none]) (ds := st.map tiD) ((st.map (·.1)).map nm) (by simp! [pFld, xlk, sn]) (by simp) (by simp; omega) (fun i d y hd hy => by
      rw [List.getElem?_map] at hd
      obtain ⟨p, hp, rfl⟩ := Option.map_eq_some_iff.mp hd
      rw [List.getElem?_map, List.getElem?_map, hp] at hy
      cases hy
      exact ⟨[some (.arg, groD n ow g st bs us), some (.own, nm p.2.1), some (.own, nm p.2.2.1), some (.own, nm p.1), some (.own, nm p.2.2.2)], by simp! [freeze, frz1, Mode.frz, Kind.S, wipeE, newAll, Mode.new], _, by simp! [sl_eq] <;> rfl, [some (.arg, groD n ow g st bs us), some (.own, nm p.2.1), some (.own, nm p.2.2.1), some (.own, nm p.1), some (.own, nm p.2.2.2)], by simp! [d_m_Grove_numbers_1], by simp [wipeE, freeze, frz1, Mode.frz, Kind.S]⟩)
  have aL := atomL_nm (st.map (·.1))
  generalize st.map (·.1) = N at *
  simp! [f_m_Grove_numbers, d_m_Grove_numbers, lc, aL]
end
end VL
set_option maxHeartbeats 4000000
namespace VL
open PySem PySem.Spec PyProof.Rows L2
open GV (V3 Tis E3 lk Up Nd u1 Ok Chb Chu GI putA delA)
theorem mm_nm (a b : Nat) : (pMin [nm a, nm b] = some (nm (min a b))) ∧ pMax [nm a, nm b] = some (nm (max a b)) := by
  constructor
  · simp only [nm, pMin]
    congr 2
    omega
  · simp only [nm, pMax]
    congr 2
    omega
theorem tgL_each {g : D → Env → Option Env} {t : TF} {f : EF} {E : Env} : ∀ {ds ys : List D}, ds.length = ys.length → (∀ (i : Nat) (d y : D), ds[i]? = some d → ys[i]? = some y → ∃ E1, g d E = some E1 ∧ ∃ E2, t E1 = some (true, E2) ∧ ∃ E3, f E1 = some (y, E3)) → tgL g t f ds E = some ys
  | [], [], _, _ => rfl
  | [], _ :: _, hl, _ => by simp at hl
  | _ :: _, [], hl, _ => by simp at hl
  | d :: ds, y :: ys, hl, st => by
    obtain ⟨E1, h1, E2, h2, E3, h3⟩ := st 0 d y rfl rfl
    have ih := tgL_each (g := g) (t := t) (f := f) (E := E) (ds := ds) (ys := ys) (by simpa using hl) fun i d y hd hy => st (i + 1) d y hd hy
    simp only [tgL, h1, h2, h3, ih]
section
variable {n g : Nat} {ow : Bool} {st : Tis} {bs us : List Tis}
theorem spot_ok {x at_ : Nat} {v : V3} (hl : st.length ≤ 60) (nd : Nd st) (h : st[at_]? = some (x, v)) : f_m_Grove_spot_of [groD n ow g st bs us, nm x] = some (nm at_, []) := by
  have e1 := numbers_ok (n := n) (ow := ow) (g := g) (bs := bs) (us := us) hl
  have hx : x ∈ st.map (·.1) := List.mem_map.mpr ⟨_, List.mem_of_getElem? h, rfl⟩
  obtain ⟨j, j1, j2⟩ := idx_nm hx
  have ej : j = at_ := by
    have h2 : (st.map (·.1))[at_]? = some x := by rw [List.getElem?_map, h]; rfl
    exact (List.getElem?_inj (List.getElem?_eq_some_iff.mp j1).1 nd).mp (j1.trans h2.symm)
  subst ej
  have fl := flatsD_nm (st.map (·.1))
  have w := whole_ok (x : Int)
  generalize st.map (·.1) = N at *
  simp! [f_m_Grove_spot_of, d_m_Grove_spot_of, eMethR, eAt, isObj, idxS, sn, e1, w, hx, fl, j2]
theorem laid_ok (hl : st.length ≤ 60) : f_m_Grove_laid_out [groD n ow g st bs us] = some (webD n (st.map fun p => (p.2.1, p.2.2.1)), []) := by
  have tg : eTupG1 (.sub 0) (iSeq (ePrim (pFld 16 "standing") (lCons (eVar 0) lNil))) (fun b => (gTupE 4 (gsCons (gSet (.pr b) 3) (gsCons (gSet (.pr b) 1) (gsCons (gSet (.pr b) 2) (gsCons (gSet (.pr b) 4) gsNil)))))) tYesF d_m_Grove_laid_out_2 [3, 1, 2, 4] [some (.arg, groD n ow g st bs us), none, none, none, none] = some (.tup ((st.map fun p => (p.2.1, p.2.2.1)).map ln), [some (.arg, groD n ow g st bs us), none, none, none, none]) := by
    rw [eTupG1_ap]
    have hv : iSeq (ePrim (pFld 16 "standing") (lCons (eVar 0) lNil)) [some (.arg, groD n ow g st bs us), none, none, none, none] = some (st.map tiD, [some (.arg, groD n ow g st bs us), none, none, none, none]) := by simp! [pFld, xlk, sn]
    rw [hv]
    have a := atomL_ln (st.map fun p => (p.2.1, p.2.2.1))
    have sl0 : st.length ≤ 16777216 := by omega
    dsimp only
    rw [tgL_each (ys := (st.map fun p => (p.2.1, p.2.2.1)).map ln) (by simp) fun i d y hd hy => ?_]
    · dsimp only
      rw [a, sl_eq, sizeLine_eq, List.length_map, List.length_map, decide_eq_true sl0]
      rfl
    · rw [List.getElem?_map] at hd
      obtain ⟨p, hp, rfl⟩ := Option.map_eq_some_iff.mp hd
      rw [List.getElem?_map, List.getElem?_map, hp] at hy
      cases hy
      refine ⟨[some (.arg, groD n ow g st bs us), some (.own, nm p.2.1), some (.own, nm p.2.2.1), some (.own, nm p.1), some (.own, nm p.2.2.2)], by simp! [sl_eq], _, rfl, [some (.arg, groD n ow g st bs us), some (.own, nm p.2.1), some (.own, nm p.2.2.1), some (.own, nm p.1), some (.own, nm p.2.2.2)], ?_⟩
      simp! [d_m_Grove_laid_out_2, ln, sizeLine_eq]
  have aL := atomL_ln (st.map fun p => (p.2.1, p.2.2.1))
  generalize (st.map fun p => (p.2.1, p.2.2.1)) = N at *
  simp! [f_m_Grove_laid_out, d_m_Grove_laid_out, tg, pFld, xlk, sn, aL, sizeLine_eq]
theorem become_ok {st' : Tis} (hb : bs.length ≤ 1000) : opBecome 16 (groD n ow g st bs us) [stL st'] = some (groD n ow g st' (st :: bs) [], .non) := by
  have h : bs.length < 16777216 := by omega
  simp [opBecome, opMvF, opFld, putND, idxS, sn, sl_eq, sizeLine_eq, h]
theorem back_mv {s : Tis} (hu : us.length ≤ 1000) : opMvF 16 "undone" "standing" (groD n ow g st bs us) [] = some (.obj 16 ["places", "one_way", "given", "standing", "before", "undone"] [nm n, .bl ow, nm g, .any, .lst (bs.reverse.map stL), .lst ((st :: us).reverse.map stL)], .non) := by
  have h : us.length < 16777216 := by omega
  simp [opMvF, idxS, sn, sl_eq, sizeLine_eq, h]
theorem again_mv (hb : bs.length ≤ 1000) : opMvF 16 "before" "standing" (groD n ow g st bs us) [] = some (.obj 16 ["places", "one_way", "given", "standing", "before", "undone"] [nm n, .bl ow, nm g, .any, .lst ((st :: bs).reverse.map stL), .lst (us.reverse.map stL)], .non) := by
  have h : bs.length < 16777216 := by omega
  simp [opMvF, idxS, sn, sl_eq, sizeLine_eq, h]
theorem mback_ok {s : Tis} (hu : us.length ≤ 1000) : f_m_Grove_back [groD n ow g st (s :: bs) us] = some (.non, [groD n ow g s bs (st :: us)]) := by
  have e1 := back_mv (n := n) (ow := ow) (g := g) (st := st) (bs := s :: bs) (s := s) hu
  have e2 : opPopF 16 "standing" "before" (.obj 16 ["places", "one_way", "given", "standing", "before", "undone"] [.int (n : Int), .bl ow, .int (g : Int), .any, .lst ((bs.map stL).reverse ++ [stL s]), .lst ((us.map stL).reverse ++ [stL st])]) [] = some (groD n ow g s bs (st :: us), .non) := by
    simp [opPopF, idxS, sn]
  have ne : ((List.map stL bs).reverse ++ [stL s]).isEmpty = false := by simp
  simp! [f_m_Grove_back, d_m_Grove_back, ne, sMvF_ap, sPopF_ap, pFld, xlk, sn, e1, e2]
theorem magain_ok {u : Tis} (hb : bs.length ≤ 1000) : f_m_Grove_again [groD n ow g st bs (u :: us)] = some (.non, [groD n ow g u (st :: bs) us]) := by
  have e1 := again_mv (n := n) (ow := ow) (g := g) (st := st) (us := u :: us) hb
  have e2 : opPopF 16 "standing" "undone" (.obj 16 ["places", "one_way", "given", "standing", "before", "undone"] [.int (n : Int), .bl ow, .int (g : Int), .any, .lst ((bs.map stL).reverse ++ [stL st]), .lst ((us.map stL).reverse ++ [stL u])]) [] = some (groD n ow g u (st :: bs) us, .non) := by
    simp [opPopF, idxS, sn]
  have ne : ((List.map stL us).reverse ++ [stL u]).isEmpty = false := by simp
  simp! [f_m_Grove_again, d_m_Grove_again, ne, sMvF_ap, sPopF_ap, pFld, xlk, sn, e1, e2]
end
end VL
set_option maxHeartbeats 4000000
namespace VL
open PySem PySem.Spec PyProof.Rows L2
open GV (V3 Tis E3 lk Up Nd u1 Ok Chb Chu GI putA delA)
section
variable {n g : Nat} {ow : Bool} {st : Tis} {bs us : List Tis}
abbrev tkE (O : D) (x : Nat) (x2 : Option (Mode × D)) : Env := [some (.io, O), some (.arg, nm x), x2]
theorem cut_erase (S : Tis) (i : Nat) : S.eraseIdx i = S.take i ++ S.drop (i + 1) := List.eraseIdx_eq_take_drop_succ ..
theorem mtake_ok {x at_ : Nat} {v : V3} (hl : st.length ≤ 60) (nd : Nd st) (hb : bs.length ≤ 1000) (h : st[at_]? = some (x, v)) : f_m_Grove_take [groD n ow g st bs us, nm x] = some (.non, [groD n ow g (st.eraseIdx at_) (st :: bs) []]) := by
  have e1 := spot_ok (n := n) (ow := ow) (g := g) (bs := bs) (us := us) hl nd h
  have e2 := become_ok (n := n) (ow := ow) (g := g) (st := st) (us := us) (st' := st.eraseIdx at_) hb
  have c1 := cut_lo (st.map tiD) at_
  have c2 := cut_hi (st.map tiD) (at_ + 1)
  have aL := atomL_ti (st.eraseIdx at_)
  push_cast at c2
  have l2 : List.map tiD (st.eraseIdx at_) = List.take at_ (st.map tiD) ++ List.drop (at_ + 1) (st.map tiD) := by rw [cut_erase, List.map_append, List.map_take, List.map_drop]
  have sz : (List.take at_ (st.map tiD)).length + (List.drop (at_ + 1) (st.map tiD)).length ≤ 16777216 := by
    have := congrArg List.length l2
    rw [List.length_append, List.length_map] at this
    have := List.length_eraseIdx_le st at_
    omega
  have l3 : stL (st.eraseIdx at_) = .lst (List.take at_ (st.map tiD) ++ List.drop (at_ + 1) (st.map tiD)) := by rw [← l2]
  rw [l3] at e2
  rw [l2] at aL
  generalize hA : List.take at_ (st.map tiD) = A at *
  generalize hB : List.drop (at_ + 1) (st.map tiD) = B at *
  rw [atomL_app, Bool.and_eq_true] at aL
  obtain ⟨d, ds', e, rfl, rfl⟩ := wp_call (S := d_m_Grove_take) (N := 3) (J := [0]) (ds := [groD n ow g st bs us, nm x]) (fun d ds' => d = .non ∧ ds' = [groD n ow g (st.eraseIdx at_) (st :: bs) []]) (by
    have s0 : startE 3 [0] [groD n ow g st bs us, nm x] = tkE (groD n ow g st bs us) x none := by simp [startE]
    rw [s0]
    unfold d_m_Grove_take
    simp only [nm] at e1
    (refine wp_seq (wp_gen fun R hR => ?_); simp! [sizeLine_eq, eMethR, eAt, isObj, idxS, sn, e1]; subst hR; first | rw [Aft_nx] | rw [Aft_rt] | skip)
    refine wp_eq (E' := tkE (groD n ow g (st.eraseIdx at_) (st :: bs) []) x (some (.own, nm at_))) ?_ (cq_nx (ds' := [groD n ow g (st.eraseIdx at_) (st :: bs) []]) rfl ⟨rfl, rfl⟩)
    rw [sMethM_ap]
    simp! [pFld, xlk, isObj, idxS, sn, c1, c2, aL, e2, sizeLine_eq, sz])
  exact e
end
end VL
set_option maxHeartbeats 4000000
namespace VL
open PySem PySem.Spec PyProof.Rows L2
open GV (V3 Tis E3 lk Up Nd u1 Ok Chb Chu GI putA delA)
section
variable {n g : Nat} {ow : Bool} {st : Tis} {bs us : List Tis}
theorem refstr_ok (s : Nat) : f_refuse_strength [nm s] = some (.non, []) := by
  have w := whole_ok (s : Int)
  have h : (0 : Int) ≤ s := by omega
  simp! [f_refuse_strength, d_refuse_strength, f_is_amount, d_is_amount, w, h, pGe]
theorem refplace_ok {ps : List (Nat × Nat)} {a : Nat} (h : a < n) : f_refuse_place [webD n ps, nm a] = some (.non, []) := by
  have w := whole_ok (a : Int)
  have h1 : (0 : Int) ≤ a := by omega
  have h2 : (a : Int) < n := by omega
  have e : f_is_place [.int (n : Int), .int (a : Int)] = some (.bl true, []) := by simp! [f_is_place, d_is_place, w, h]
  simp! [f_refuse_place, d_refuse_place, e]
theorem reftwo_ok {ps : List (Nat × Nat)} {a b : Nat} (ha : a < n) (hb : b < n) (hab : a ≠ b) : f_refuse_two_places [webD n ps, nm a, nm b] = some (.non, []) := by
  have e1 := refplace_ok (ps := ps) ha
  have e2 := refplace_ok (ps := ps) hb
  have h : ¬ (a : Int) = b := by omega
  simp only [nm] at e1 e2
  simp! [f_refuse_two_places, d_refuse_two_places, e1, e2, h, hab]
abbrev seE (O : D) (x s : Nat) (x3 x4 : Option (Mode × D)) : Env := [some (.io, O), some (.arg, nm x), some (.arg, nm s), x3, x4]
theorem mstr_ok {x at_ s : Nat} {v : V3} (hl : st.length ≤ 60) (nd : Nd st) (hb : bs.length ≤ 1000) (h : st[at_]? = some (x, v)) : f_m_Grove_strengthen [groD n ow g st bs us, nm x, nm s] = some (.non, [groD n ow g (st.set at_ (x, v.1, v.2.1, s)) (st :: bs) []]) := by
  have e1 := spot_ok (n := n) (ow := ow) (g := g) (bs := bs) (us := us) hl nd h
  have e2 := become_ok (n := n) (ow := ow) (g := g) (st := st) (us := us) (st' := st.set at_ (x, v.1, v.2.1, s)) hb
  have e3 := refstr_ok s
  have aL := atomL_ti st
  have hat : at_ < st.length := (List.getElem?_eq_some_iff.mp h).1
  have hix := ixN_nat hat
  have hai : atI (st.map tiD) (at_ : Int) = some (tiD (x, v)) := by rw [atI_nat, List.getElem?_map, h]; rfl
  have c3 := cut_3 (.int (x : Int)) (.int (v.1 : Int)) (.int (v.2.1 : Int)) (.int (v.2.2 : Int))
  have l2 : List.map tiD (st.set at_ (x, v.1, v.2.1, s)) = (st.map tiD).set at_ (tiD (x, v.1, v.2.1, s)) := by rw [List.map_set]
  have l3 : stL (st.set at_ (x, v.1, v.2.1, s)) = .lst ((st.map tiD).set at_ (.tup [.int (x : Int), .int (v.1 : Int), .int (v.2.1 : Int), .int (s : Int)])) := by rw [← l2]
  rw [l3] at e2
  have lM : (st.map tiD).length = st.length := List.length_map ..
  generalize hM : st.map tiD = M at *
  rw [← lM] at hix
  have sz : M.length ≤ 16777216 := by omega
  obtain ⟨d, ds', e, rfl, rfl⟩ := wp_call (S := d_m_Grove_strengthen) (N := 5) (J := [0]) (ds := [groD n ow g st bs us, nm x, nm s]) (fun d ds' => d = .non ∧ ds' = [groD n ow g (st.set at_ (x, v.1, v.2.1, s)) (st :: bs) []]) (by
    have s0 : startE 5 [0] [groD n ow g st bs us, nm x, nm s] = seE (groD n ow g st bs us) x s none none := by simp [startE]
    rw [s0]
    unfold d_m_Grove_strengthen
    simp only [nm] at e1 e3
    (refine wp_seq (wp_gen fun R hR => ?_); simp! [sizeLine_eq, eMethR, eAt, isObj, idxS, sn, e1]; subst hR; first | rw [Aft_nx] | rw [Aft_rt] | skip)
    (refine wp_seq (wp_gen fun R hR => ?_); simp! [sizeLine_eq, e3]; subst hR; first | rw [Aft_nx] | rw [Aft_rt] | skip)
    refine wp_seq (wp_eq (E' := seE (groD n ow g st bs us) x s (some (.own, nm at_)) (some (.own, .lst M))) ?_ ?_)
    · simp! [pFld, xlk, sn, hM, aL, sizeLine_eq, sz]
    rw [Aft_nx]
    refine wp_seq (wp_eq (E' := seE (groD n ow g st bs us) x s (some (.own, nm at_)) (some (.own, .lst (M.set at_ (.tup [.int (x : Int), .int (v.1 : Int), .int (v.2.1 : Int), .int (s : Int)]))))) ?_ ?_)
    · have s4 : HT.sIx 4 4 (some 3) = 3 := by first | rfl | decide
      simp! [hai, c3, hix, s4, sizeLine_eq]
    rw [Aft_nx]
    refine wp_eq (E' := seE (groD n ow g (st.set at_ (x, v.1, v.2.1, s)) (st :: bs) []) x s (some (.own, nm at_)) none) ?_ (cq_nx (ds' := [groD n ow g (st.set at_ (x, v.1, v.2.1, s)) (st :: bs) []]) rfl ⟨rfl, rfl⟩)
    rw [sMethV_ap]
    simp! [isObj, idxS, sn, e2])
  exact e
abbrev enN (ow : Bool) (a b : Nat) : Nat × Nat := if ow then (a, b) else (min a b, max a b)
abbrev puE (O : D) (a b s : Nat) (x4 x5 : Option (Mode × D)) : Env := [some (.io, O), some (.arg, nm a), some (.arg, nm b), some (.arg, nm s), x4, x5]
theorem mput_ok {a b s : Nat} (ha : a < n) (hb : b < n) (hab : a ≠ b) (hl : st.length < if ow then 60 else 30) (hbs : bs.length ≤ 1000) : f_m_Grove_put [groD n ow g st bs us, nm a, nm b, nm s] = some (nm g, [groD n ow (g + 1) (st ++ [(g, (enN ow a b).1, (enN ow a b).2, s)]) (st :: bs) []]) := by
  have hl60 : st.length ≤ 60 := by cases ow <;> simp at hl <;> omega
  have e0 := laid_ok (n := n) (ow := ow) (g := g) (bs := bs) (us := us) hl60
  have e1 := reftwo_ok (ps := st.map fun p => (p.2.1, p.2.2.1)) ha hb hab
  have e2 := become_ok (n := n) (ow := ow) (g := g + 1) (st := st) (us := us) (st' := st ++ [(g, (enN ow a b).1, (enN ow a b).2, s)]) hbs
  have e3 := refstr_ok s
  have aL := atomL_ti st
  have sz : st.length + 1 ≤ 16777216 := by omega
  obtain ⟨m1, m2⟩ := mm_nm a b
  generalize hW : webD n (st.map fun p => (p.2.1, p.2.2.1)) = W at *
  obtain ⟨d, ds', e, rfl, rfl⟩ := wp_call (S := d_m_Grove_put) (N := 6) (J := [0]) (ds := [groD n ow g st bs us, nm a, nm b, nm s]) (fun d ds' => d = nm g ∧ ds' = [groD n ow (g + 1) (st ++ [(g, (enN ow a b).1, (enN ow a b).2, s)]) (st :: bs) []]) (by
    have s0 : startE 6 [0] [groD n ow g st bs us, nm a, nm b, nm s] = puE (groD n ow g st bs us) a b s none none := by simp [startE]
    rw [s0]
    unfold d_m_Grove_put
    simp only [nm] at e1 e3 m1 m2
    (refine wp_seq (wp_gen fun R hR => ?_); simp! [sizeLine_eq, eMethR, eAt, isObj, idxS, sn, e0, e1]; subst hR; first | rw [Aft_nx] | rw [Aft_rt] | skip)
    (refine wp_seq (wp_gen fun R hR => ?_); simp! [sizeLine_eq, e3]; subst hR; first | rw [Aft_nx] | rw [Aft_rt] | skip)
    refine wp_seq (wp_eq (E' := puE (groD n ow g st bs us) a b s none none) ?_ ?_)
    · cases ow
      · have : ¬ (30 : Int) ≤ st.length := by simp at hl; omega
        simp! [pFld, xlk, sn, pGe, this]
      · have : ¬ (60 : Int) ≤ st.length := by simp at hl; omega
        simp! [pFld, xlk, sn, pGe, this]
    rw [Aft_nx]
    refine wp_seq (wp_eq (E' := puE (groD n ow g st bs us) a b s (some (.own, nm g)) none) ?_ ?_)
    · simp! [pFld, xlk, sn]
    rw [Aft_nx]
    refine wp_seq (wp_eq (E' := puE (groD n ow (g + 1) st bs us) a b s (some (.own, nm g)) none) ?_ ?_)
    · simp! [sAugF_ap, idxS, sn]
    rw [Aft_nx]
    refine wp_seq (wp_eq (E' := puE (groD n ow (g + 1) st bs us) a b s (some (.own, nm g)) (some (.own, ln (enN ow a b)))) ?_ ?_)
    · cases ow
      · simp! [-pMin, -pMax, pFld, xlk, sn, m1, m2, sizeLine_eq, enN]
      · simp! [pFld, xlk, sn, sizeLine_eq, enN]
    rw [Aft_nx]
    refine wp_seq (wp_eq (E' := puE (groD n ow (g + 1) (st ++ [(g, (enN ow a b).1, (enN ow a b).2, s)]) (st :: bs) []) a b s (some (.own, nm g)) (some (.own, ln (enN ow a b)))) ?_ ?_)
    · have l3 : stL (st ++ [(g, (enN ow a b).1, (enN ow a b).2, s)]) = .lst (st.map tiD ++ [.tup [.int (g : Int), .int ((enN ow a b).1 : Int), .int ((enN ow a b).2 : Int), .int (s : Int)]]) := by simp
      rw [l3] at e2
      generalize enN ow a b = en at *
      rw [sMethM_ap]
      simp! [pFld, xlk, isObj, idxS, sn, aL, sizeLine_eq, sz, e2]
    rw [Aft_nx]
    (refine wp_gen fun R hR => ?_; simp! [sizeLine_eq]; subst hR)
    exact cq_rt (ds' := [groD n ow (g + 1) (st ++ [(g, (enN ow a b).1, (enN ow a b).2, s)]) (st :: bs) []]) rfl ⟨rfl, rfl⟩)
  exact e
end
end VL
set_option maxHeartbeats 4000000
namespace VL
open PySem PySem.Spec PyProof.Rows L2
open GV (V3 Tis E3 lk Up Nd u1 Ok Chb Chu GI putA delA)
theorem strength_ok {p : D} (hp : PotD p) : ∃ (s : Nat) (p' : D), PotD p' ∧ s < 10 ^ 60 ∧ f_law_strength [p] = some (nm s, [p']) := by
  obtain ⟨w, p1, hp1, hw, e1⟩ := take_ok hp (m := 5) (by omega) (by omega)
  obtain ⟨a, p2, hp2, ha, e2⟩ := take_ok hp1 (m := 1000000000) (by omega) (by omega)
  obtain ⟨b, p3, hp3, hb, e3⟩ := take_ok hp2 (m := 1000000000) (by omega) (by omega)
  obtain ⟨c, p4, hp4, hc, e4⟩ := take_ok hp3 (m := 4) (by omega) (by omega)
  obtain ⟨f, p5, hp5, hf, e5⟩ := take_ok hp4 (m := 12) (by omega) (by omega)
  have hfar : a * 10 ^ 51 + b < 10 ^ 60 := by omega
  have ex : ∃ s : Nat, s < 10 ^ 60 ∧ atI [.int 1, .int (c : Int), .int (f : Int), .int ((a : Int) * 1000000000000000000000000000000000000000000000000000 + (b : Int)), .int 0] (w : Int) = some (nm s) := by
    have : w = 0 ∨ w = 1 ∨ w = 2 ∨ w = 3 ∨ w = 4 := by omega
    rcases this with rfl | rfl | rfl | rfl | rfl
    · exact ⟨1, by omega, by simp [atI, ixN]⟩
    · exact ⟨c, by omega, by simp [atI, ixN]⟩
    · exact ⟨f, by omega, by simp [atI, ixN]⟩
    · exact ⟨a * 10 ^ 51 + b, hfar, by simp [atI, ixN]⟩
    · exact ⟨0, by omega, by simp [atI, ixN]⟩
  obtain ⟨s, hs, es⟩ := ex
  refine ⟨s, p5, hp5, hs, ?_⟩
  have ha2 : -18446744073709551616 < (a : Int) ∧ (a : Int) < 18446744073709551616 := by omega
  simp only [nm] at e1 e2 e3 e4 e5
  simp! [f_law_strength, d_law_strength, e1, e2, e3, e4, e5, es, ha2, sizeLine_eq]
theorem begun_ok {p : D} {m : Nat} (hp : PotD p) (h0 : 0 < m) (h1 : m ≤ 9) : ∃ (n : Nat) (ow : Bool) (p' : D), PotD p' ∧ 1 ≤ n ∧ n ≤ m ∧ f_law_begun [p, nm m] = some (staD n ow [] 0 [] [], [p']) := by
  obtain ⟨a, p1, hp1, ha, e1⟩ := take_ok hp (m := (m : Int)) (by omega) (by omega)
  obtain ⟨b, p2, hp2, hb, e2⟩ := take_ok hp1 (m := 2) (by omega) (by omega)
  refine ⟨a + 1, decide (b = 1), p2, hp2, by omega, by omega, ?_⟩
  have hz : ((b : Int) = 1) ↔ b = 1 := by omega
  simp only [nm] at e1 e2
  simp! [f_law_begun, d_law_begun, e1, e2, sizeLine_eq, hz]
  omega
theorem atK_S (S : Tis) (x : Nat) : atK (dK S) (dV S) (Sum.inl (x : Int)) = (lk S x).map v3D := by
  induction S with
  | nil => rfl
  | cons p S ih =>
    show (if (Sum.inl (p.1 : Int) : Key) = Sum.inl (x : Int) then some (v3D p.2) else atK (dK S) (dV S) (Sum.inl (x : Int))) = _
    rw [GV.lk_cons]
    by_cases z : p.1 = x
    · rw [if_pos (by rw [z]), if_pos z]; rfl
    · rw [if_neg (fun e => z (by have := Sum.inl.inj e; omega)), if_neg z, ih]
theorem putK_S (S : Tis) (x : Nat) (v : V3) : putKD (dK S) (dV S) (Sum.inl (x : Int)) (v3D v) = (dK (putA S x v), dV (putA S x v)) := by
  induction S with
  | nil => rfl
  | cons p S ih =>
    unfold putA
    show (if (Sum.inl (p.1 : Int) : Key) = Sum.inl (x : Int) then _ else _) = _
    by_cases z : p.1 = x
    · rw [if_pos (by rw [z]), if_pos z]
      show (Sum.inl (p.1 : Int) :: dK S, _) = (Sum.inl (x : Int) :: dK S, _)
      rw [z]
      rfl
    · rw [if_neg (fun e => z (by have := Sum.inl.inj e; omega)), if_neg z]
      show (Sum.inl (p.1 : Int) :: (putKD (dK S) (dV S) (Sum.inl (x : Int)) (v3D v)).1, v3D p.2 :: (putKD (dK S) (dV S) (Sum.inl (x : Int)) (v3D v)).2) = _
      rw [ih]
      rfl
theorem filt_S (S : Tis) (x : Nat) : ((dK S).zip (dV S)).filter (fun p => decide (p.1 ≠ Sum.inl (x : Int))) = (dK (delA S x)).zip (dV (delA S x)) := by
  unfold delA
  induction S with
  | nil => rfl
  | cons p S ih =>
    show List.filter _ ((Sum.inl (p.1 : Int), v3D p.2) :: (dK S).zip (dV S)) = _
    rw [List.filter_cons, List.filter_cons, ih]
    by_cases z : p.1 = x
    · rw [if_neg (by simp [z]), if_neg (by simp [z])]
    · rw [if_pos (by simp; exact fun e => z (by omega)), if_pos (by simpa using z)]
      rfl
theorem zip_fst (S : Tis) : ((dK S).zip (dV S)).map (·.1) = dK S := List.map_fst_zip (by simp)
theorem zip_snd (S : Tis) : ((dK S).zip (dV S)).map (·.2) = dV S := List.map_snd_zip (by simp)
abbrev stA (S : Tis) (x : Nat) (o : Option V3) : Tis := match o with
  | none => delA S x
  | some v => putA S x v
theorem stA_lk {S : Tis} {x : Nat} {o : Option V3} (y : Nat) : lk (stA S x o) y = u1 (lk S) x o y := by
  cases o with
  | none => exact GV.delA_lk y
  | some v => exact GV.putA_lk y
theorem stA_nd {S : Tis} {x : Nat} {o : Option V3} (h : Nd S) : Nd (stA S x o) := by
  cases o with
  | none => exact GV.delA_nd h
  | some v => exact GV.putA_nd h
theorem settle_ok {S : Tis} {x : Nat} {o : Option V3} (hl : S.length ≤ 60) (h : o = none → lk S x ≠ none) : f_law_settle [dD S, nm x, o3D o] = some (.non, [dD (stA S x o)]) := by
  cases o with
  | none =>
    obtain ⟨v, hv⟩ : ∃ v, lk S x = some v := by
      cases e : lk S x with
      | none => exact absurd e (h rfl)
      | some v => exact ⟨v, rfl⟩
    have e1 : opPopD (dD S) [.int (x : Int)] = some (dD (delA S x), v3D v) := by
      have a := atK_S S x
      have aL := atomL_dV S
      unfold opPopD
      simp only [keyD, a, hv, Option.map_some, aL, if_true, filt_S, zip_fst, zip_snd]
    simp! [f_law_settle, d_law_settle, e1]
  | some v =>
    have a := putK_S S x v
    simp only [v3D, nm] at a
    have sz : S.length < 16777216 := by omega
    simp! [f_law_settle, d_law_settle, a, sizeLine_eq, sz]
theorem at6_4 (a b c d e f : D) : atI [a, b, c, d, e, f] 4 = some e := rfl
theorem at6_5 (a b c d e f : D) : atI [a, b, c, d, e, f] 5 = some f := rfl
theorem ix6_2 : ixN 6 2 = some 2 := rfl
theorem ix6_3 : ixN 6 3 = some 3 := rfl
theorem ix6_4 : ixN 6 4 = some 4 := rfl
theorem ix6_5 : ixN 6 5 = some 5 := rfl
section
variable {n g : Nat} {ow : Bool} {S : Tis} {dn un : List E3}
theorem did_ok {x : Nat} {o : Option V3} (hl : S.length ≤ 60) (hd : dn.length ≤ 1000) (h : o = none → lk S x ≠ none) : f_law_did [staD n ow S g dn un, nm x, o3D o] = some (.non, [staD n ow (stA S x o) g ((x, lk S x, o) :: dn) []]) := by
  have e1 : (atK (dK S) (dV S) (Sum.inl (x : Int))).getD .non = o3D (lk S x) := by
    rw [atK_S]
    cases lk S x <;> rfl
  have e2 := settle_ok hl h
  have sz : dn.length < 16777216 := by omega
  have a1 := o3_atom (lk S x)
  have a2 := o3_atom o
  have aL := atomL_en dn
  generalize hO : o3D o = O at *
  generalize hL : o3D (lk S x) = Lo at *
  simp only [nm] at e2
  simp! [f_law_did, d_law_did, eCallF, eAt, e1, e2, a1, a2, sizeLine_eq, sz, hL, hO, at6_4, at6_5, ix6_2, ix6_3, ix6_4, ix6_5]
end
end VL
set_option maxHeartbeats 4000000
namespace VL
open PySem PySem.Spec PyProof.Rows L2
open GV (V3 Tis E3 lk Up Nd u1 Ok Chb Chu GI putA delA)
theorem sorted_S {S st : Tis} (pm : S.Perm st) (up : Up st) (hl : st.length ≤ 60) : pSortedA [dD S] = some (lsD (st.map (·.1))) := by
  have ki : ∀ S : Tis, keyInts (dK S) = some ((S.map (·.1)).map fun (k : Nat) => (k : Int)) := fun S => by
    induction S with
    | nil => rfl
    | cons p S ih =>
      show keyInts (Sum.inl (p.1 : Int) :: dK S) = _
      simp only [keyInts, ih]
      rfl
  have hS : S.length = st.length := pm.length_eq
  show pSortedD [dD S] = _
  unfold pSortedD
  simp only [ki]
  rw [if_pos (by simp; omega)]
  have := sortI_uniq (ns := (S.map (·.1)).map fun (k : Nat) => (k : Int)) (ms := (st.map (·.1)).map fun (k : Nat) => (k : Int)) ((pm.symm.map _).map _) (by
    rw [List.pairwise_map, List.pairwise_map]
    exact up.imp fun h => by omega)
  rw [← this, List.map_map]
  rfl
theorem repr_nm {k : Nat} (h : k < 10 ^ 60) : ∃ s, pReprX [nm k] = some (.str s) := reprX_int (k := 60) (by omega) (by simpa using h)
def DeedR (n : Nat) (ow : Bool) (k : Nat) (G L : D) : Prop := ∃ g st bs us S dn un, GI n k g st bs us S dn un ∧ g ≤ k ∧ G = groD n ow g st bs us ∧ L = staD n ow S g dn un
section
variable {n g k : Nat} {ow : Bool} {st : Tis} {bs us : List Tis} {S : Tis} {dn un : List E3}
abbrev lpE (p G L : D) (x3 x4 x5 x6 : Option (Mode × D)) : Env := [some (.io, p), some (.io, G), some (.io, L), x3, x4, x5, x6]
theorem lput_ok {p : D} (hp : PotD p) (I : GI n k g st bs us S dn un) (hk : k ≤ 100) (hg : g ≤ k) (h2 : 2 ≤ n) (h9 : n ≤ 9) (hl : st.length < if ow then 60 else 30) :
    ∃ p' G' L', PotD p' ∧ DeedR n ow (k + 1) G' L' ∧ f_law_put [p, groD n ow g st bs us, staD n ow S g dn un] = some (.bl true, [p', G', L']) := by
  have hl60 : st.length < 60 := by cases ow <;> simp at hl <;> omega
  obtain ⟨a, p1, hp1, ha, e1⟩ := take_ok hp (m := (n : Int)) (by omega) (by omega)
  obtain ⟨t, p2, hp2, ht, e2⟩ := take_ok hp1 (m := (n : Int) - 1) (by omega) (by omega)
  obtain ⟨s, p3, hp3, hs, e3⟩ := strength_ok hp2
  obtain ⟨b, hb⟩ : ∃ b, b = (a + 1 + t) % n := ⟨_, rfl⟩
  have hbn : b < n := by rw [hb]; exact Nat.mod_lt _ (by omega)
  have han : a < n := by omega
  have hab : a ≠ b := fun e => by
    have htn : t + 1 < n := by omega
    by_cases z : a + 1 + t < n
    · rw [Nat.mod_eq_of_lt z] at hb; omega
    · rw [Nat.mod_eq_sub_mod (by omega), Nat.mod_eq_of_lt (by omega)] at hb; omega
  have hbI : ((a : Int) + 1 + t) % n = (b : Int) := by rw [hb]; push_cast; rfl
  have hbs : bs.length ≤ 1000 := by have := I.few; omega
  have e4 := mput_ok (n := n) (g := g) (ow := ow) (st := st) (bs := bs) (us := us) (s := s) han hbn hab hl hbs
  have hSl : S.length ≤ 60 := by rw [I.perm.length_eq]; omega
  have e5 := did_ok (n := n) (g := g) (ow := ow) (S := S) (dn := dn) (un := un) (x := g) (o := some ((enN ow a b).1, (enN ow a b).2, s)) hSl (by rw [← I.cb.len]; omega) (fun z => by cases z)
  have hgood : (enN ow a b).1 < n ∧ (enN ow a b).2 < n ∧ (enN ow a b).1 ≠ (enN ow a b).2 := by
    cases ow
    · show min a b < n ∧ max a b < n ∧ min a b ≠ max a b
      omega
    · exact ⟨han, hbn, hab⟩
  have I' := I.did (Nat.le_succ g) (x := g) (o := some ((enN ow a b).1, (enN ow a b).2, s)) (I.ok.snoc (v := ((enN ow a b).1, (enN ow a b).2, s)) ⟨hgood.1, hgood.2.1, hgood.2.2, hs⟩ hl60) (fun y => GV.snoc_lk I.ok.lt y) (GV.putA_nd (v := ((enN ow a b).1, (enN ow a b).2, s)) (x := g) I.nd) (fun y => GV.putA_lk y) (fun z => by cases z)
  refine ⟨p3, _, _, hp3, ⟨g + 1, _, _, _, _, _, _, I', by omega, rfl, rfl⟩, ?_⟩
  obtain ⟨sr, er⟩ := repr_nm (k := g) (by omega)
  obtain ⟨m1, m2⟩ := mm_nm a b
  have npos : 0 < n := by omega
  simp only [nm] at e1 e2 e3 e4 e5 er m1 m2
  obtain ⟨d, ds', e, rfl, rfl⟩ := wp_call (S := d_law_put) (N := 7) (J := [0, 1, 2]) (ds := [p, groD n ow g st bs us, staD n ow S g dn un]) (fun d ds' => d = .bl true ∧ ds' = [p3, groD n ow (g + 1) (st ++ [(g, (enN ow a b).1, (enN ow a b).2, s)]) (st :: bs) [], staD n ow (putA S g ((enN ow a b).1, (enN ow a b).2, s)) (g + 1) ((g, lk S g, some ((enN ow a b).1, (enN ow a b).2, s)) :: dn) []]) (by
    have s0 : startE 7 [0, 1, 2] [p, groD n ow g st bs us, staD n ow S g dn un] = lpE p (groD n ow g st bs us) (staD n ow S g dn un) none none none none := by simp [startE]
    rw [s0]
    unfold d_law_put
    (refine wp_seq (wp_gen fun R hR => ?_); simp! [sizeLine_eq, e1]; subst hR; first | rw [Aft_nx] | rw [Aft_rt] | skip)
    (refine wp_seq (wp_gen fun R hR => ?_); simp! [sizeLine_eq, e2, hbI, npos]; subst hR; first | rw [Aft_nx] | rw [Aft_rt] | skip)
    (refine wp_seq (wp_gen fun R hR => ?_); simp! [sizeLine_eq, e3]; subst hR; first | rw [Aft_nx] | rw [Aft_rt] | skip)
    refine wp_seq (wp_eq (E' := lpE p3 (groD n ow (g + 1) (st ++ [(g, (enN ow a b).1, (enN ow a b).2, s)]) (st :: bs) []) (staD n ow S g dn un) (some (.own, nm a)) (some (.own, nm b)) (some (.own, nm s)) (some (.own, nm g))) ?_ ?_)
    · simp! [eMethF, eCallF, eAt, isObj, idxS, sn, e4]
    rw [Aft_nx]
    refine wp_seq (wp_eq (E' := lpE p3 (groD n ow (g + 1) (st ++ [(g, (enN ow a b).1, (enN ow a b).2, s)]) (st :: bs) []) (staD n ow S g dn un) (some (.own, nm (enN ow a b).1)) (some (.own, nm (enN ow a b).2)) (some (.own, nm s)) (some (.own, nm g))) ?_ ?_)
    · cases ow
      · simp! [-pMin, -pMax, m1, m2, enN]
      · simp! [enN]
    rw [Aft_nx]
    generalize enN ow a b = en at *
    refine wp_seq (wp_eq (E' := lpE p3 (groD n ow (g + 1) (st ++ [(g, en.1, en.2, s)]) (st :: bs) []) (staD n ow (putA S g (en.1, en.2, s)) g ((g, lk S g, some (en.1, en.2, s)) :: dn) []) (some (.own, nm en.1)) (some (.own, nm en.2)) (some (.own, nm s)) (some (.own, nm g))) ?_ ?_)
    · simp! [ix6_3, sizeLine_eq, e5]
    rw [Aft_nx]
    refine wp_seq (wp_eq (E' := lpE p3 (groD n ow (g + 1) (st ++ [(g, en.1, en.2, s)]) (st :: bs) []) (staD n ow (putA S g (en.1, en.2, s)) (g + 1) ((g, lk S g, some (en.1, en.2, s)) :: dn) []) (some (.own, nm en.1)) (some (.own, nm en.2)) (some (.own, nm s)) (some (.own, nm g))) ?_ ?_)
    · simp! [ix6_3]
    rw [Aft_nx]
    (refine wp_gen fun R hR => ?_; simp! [sizeLine_eq, er]; subst hR)
    exact cq_rt (ds' := _) rfl ⟨by simp, rfl⟩)
  exact e
end
end VL
set_option maxHeartbeats 4000000
namespace VL
open PySem PySem.Spec PyProof.Rows L2
open GV (V3 Tis E3 lk Up Nd u1 Ok Chb Chu GI putA delA)
section
variable {n g k : Nat} {ow : Bool} {st : Tis} {bs us : List Tis} {S : Tis} {dn un : List E3}
theorem lback_ok {s : Tis} {e : E3} (I : GI n k g st (s :: bs) us S (e :: dn) un) (hk : k ≤ 100) : f_law_gone_back [groD n ow g st (s :: bs) us, staD n ow S g (e :: dn) un] = some (.bl true, [groD n ow g s bs (st :: us), staD n ow (stA S e.1 e.2.1) g dn (e :: un)]) := by
  have few := I.few
  have hul : un.length ≤ 1000 := by rw [← I.cu.len]; simp at few; omega
  have hdl : dn.length ≤ 1000 := by have := I.cb.len; simp at this few; omega
  have e1 := mback_ok (n := n) (ow := ow) (g := g) (st := st) (bs := bs) (us := us) (s := s) (by simp at few; omega)
  have hSl : S.length ≤ 60 := by rw [I.perm.length_eq]; exact I.ok.len
  have e2 := settle_ok (S := S) (x := e.1) (o := e.2.1) hSl (fun z => by
    rw [I.eq, I.cb.1.lt]
    exact I.cb.1.ne.resolve_left fun w => w z)
  have sz : un.length < 16777216 := by omega
  have a1 := o3_atom e.2.1
  have a2 := o3_atom e.2.2
  generalize hO : o3D e.2.1 = O at *
  generalize hP : o3D e.2.2 = P at *
  have hen : enD e = .tup [.int (e.1 : Int), O, P] := by rw [← hO, ← hP]
  simp only [nm] at e2
  simp! [f_law_gone_back, d_law_gone_back, eMethF, eCallF, eAt, isObj, idxS, sn, e1, e2, hen, a1, a2, sizeLine_eq, sz, at6_4, at6_5, ix6_2, ix6_4, ix6_5]
theorem lagain_ok {u : Tis} {e : E3} (I : GI n k g st bs (u :: us) S dn (e :: un)) (hk : k ≤ 100) : f_law_gone_on [groD n ow g st bs (u :: us), staD n ow S g dn (e :: un)] = some (.bl true, [groD n ow g u (st :: bs) us, staD n ow (stA S e.1 e.2.2) g (e :: dn) un]) := by
  have few := I.few
  have hdl : dn.length ≤ 1000 := by rw [← I.cb.len]; simp at few; omega
  have e1 := magain_ok (n := n) (ow := ow) (g := g) (st := st) (bs := bs) (us := us) (u := u) (by simp at few; omega)
  have hSl : S.length ≤ 60 := by rw [I.perm.length_eq]; exact I.ok.len
  have e2 := settle_ok (S := S) (x := e.1) (o := e.2.2) hSl (fun z => by
    rw [I.eq, I.cu.1.ls]
    exact I.cu.1.ne.resolve_right fun w => w z)
  have sz : dn.length < 16777216 := by omega
  have a1 := o3_atom e.2.1
  have a2 := o3_atom e.2.2
  generalize hO : o3D e.2.1 = O at *
  generalize hP : o3D e.2.2 = P at *
  have hen : enD e = .tup [.int (e.1 : Int), O, P] := by rw [← hO, ← hP]
  simp only [nm] at e2
  simp! [f_law_gone_on, d_law_gone_on, eMethF, eCallF, eAt, isObj, idxS, sn, e1, e2, hen, a1, a2, sizeLine_eq, sz, at6_4, at6_5, ix6_2, ix6_4, ix6_5]
theorem lties_ok (I : GI n k g st bs us S dn un) : f_law_ties [staD n ow S g dn un] = some (stL st, []) := by
  have so := sorted_S I.perm I.ok.up I.ok.len
  have hl := I.ok.len
  have aN := atomL_nm (st.map (·.1))
  have lc := eLc_each (k := .own) (src := iSeq (ePrim pSortedA (lCons (ePrim pIx (lCons (eVar 0) (lCons (eC (.int 2)) lNil))) lNil))) (g := fun b => (gSet (.pr b) 1)) (t := tYesF) (f := d_law_ties_1) (vs := [1])
    (E := [some (.arg, staD n ow S g dn un), none]) (E1 := [some (.arg, staD n ow S g dn un), none]) (ds := (st.map (·.1)).map nm) (st.map tiD) (by
      generalize st.map (·.1) = N at *
      simp! [so]) (by simp) (by simp; omega) (fun i d y hd hy => by
      rw [List.getElem?_map, List.getElem?_map] at hd
      rw [List.getElem?_map] at hy
      obtain ⟨p, hp, rfl⟩ := Option.map_eq_some_iff.mp hy
      rw [hp] at hd
      cases hd
      have hv : (atK (dK S) (dV S) (Sum.inl (p.1 : Int))) = some (v3D p.2) := by
        rw [atK_S, I.eq, GV.lk_of I.ok.up.nd (List.mem_of_getElem? hp)]
        rfl
      refine ⟨[some (.arg, staD n ow S g dn un), some (.own, nm p.1)], by simp! [sl_eq], _, by simp! [sl_eq] <;> rfl, [some (.arg, staD n ow S g dn un), some (.own, nm p.1)], ?_, by simp [wipeE, freeze, Kind.S]⟩
      simp! [d_law_ties_1, hv, sizeLine_eq])
  have aL := atomL_ti st
  simp! [f_law_ties, d_law_ties, lc, aL]
end
end VL
set_option maxHeartbeats 4000000
namespace VL
open PySem PySem.Spec PyProof.Rows L2
open GV (V3 Tis E3 lk Up Nd u1 Ok Chb Chu GI putA delA)
section
variable {n g k : Nat} {ow : Bool} {st : Tis} {bs us : List Tis} {S : Tis} {dn un : List E3}
theorem repr_st (h : Ok n g st) (hg : g ≤ 1000) (hn : n ≤ 9) : ∃ s, pReprX [stL st] = some (.str s) := by
  have hl := h.len
  have r : RxL (st.map tiD) (260 * (st.map tiD).length) 1 := rx_all fun d hd => by
    obtain ⟨p, hp, rfl⟩ := List.mem_map.mp hd
    have g1 := h.lt p hp
    obtain ⟨g2, g3, _, g4⟩ := h.good p hp
    have ri : ∀ x : Nat, x < 10 ^ 60 → RxD (nm x) 61 0 := fun x hx => rx_int (k := 60) (by omega) (by omega) (by simpa using hx)
    exact (rx_tup (rx_all (ds := [nm p.1, nm p.2.1, nm p.2.2.1, nm p.2.2.2]) (w := 61) (n := 0) fun d hd => by
      simp only [List.mem_cons, List.not_mem_nil, or_false] at hd
      rcases hd with rfl | rfl | rfl | rfl
      · exact ri _ (by omega)
      · exact ri _ (by omega)
      · exact ri _ (by omega)
      · exact ri _ g4)).up (by simp) (by omega)
  exact reprX_lst r (by omega) (by simp; omega)
abbrev lsE (G L : D) (x2 x3 x4 : Option (Mode × D)) : Env := [some (.arg, G), some (.arg, L), x2, x3, x4]
theorem stands_ok (I : GI n k g st bs us S dn un) (hg : g ≤ 1000) (hn : n ≤ 9) : f_law_stands [groD n ow g st bs us, staD n ow S g dn un] = some (.bl true, []) := by
  obtain ⟨sr, er⟩ := repr_st I.ok hg hn
  have e1 := lties_ok (ow := ow) I
  have e2 := ties_ok (n := n) (ow := ow) (g := g) (bs := bs) (us := us) I.ok.len
  have hl := I.ok.len
  have sz : st.length < 16777216 := by omega
  have aL := atomL_ti st
  have lM : (st.map tiD).length = st.length := List.length_map ..
  simp only [stL] at er e1 e2
  generalize st.map tiD = M at *
  rw [← lM] at sz
  obtain ⟨d, ds', e, rfl, rfl⟩ := wp_call (S := d_law_stands) (N := 5) (J := []) (ds := [groD n ow g st bs us, staD n ow S g dn un]) (fun d ds' => d = .bl true ∧ ds' = []) (by
    have s0 : startE 5 [] [groD n ow g st bs us, staD n ow S g dn un] = lsE (groD n ow g st bs us) (staD n ow S g dn un) none none none := by simp [startE]
    rw [s0]
    unfold d_law_stands
    (refine wp_seq (wp_gen fun R hR => ?_); simp! [sizeLine_eq, e1, er]; subst hR; first | rw [Aft_nx] | rw [Aft_rt] | skip)
    (refine wp_seq (wp_gen fun R hR => ?_); simp! [sizeLine_eq, eMethR, eAt, isObj, idxS, sn, e2]; subst hR; first | rw [Aft_nx] | rw [Aft_rt] | skip)
    (refine wp_seq (wp_gen fun R hR => ?_); simp! [sizeLine_eq, eMethR, eAt, isObj, idxS, sn, e2]; subst hR; first | rw [Aft_nx] | rw [Aft_rt] | skip)
    (refine wp_seq (wp_gen fun R hR => ?_); simp! [sizeLine_eq, er]; subst hR; first | rw [Aft_nx] | rw [Aft_rt] | skip)
    (refine wp_seq (wp_gen fun R hR => ?_); simp! [sizeLine_eq, sz]; subst hR; first | rw [Aft_nx] | rw [Aft_rt] | skip)
    (refine wp_seq (wp_gen fun R hR => ?_); simp! [sizeLine_eq, opRev]; subst hR; first | rw [Aft_nx] | rw [Aft_rt] | skip)
    (refine wp_seq (wp_gen fun R hR => ?_); simp! [sizeLine_eq, er, eMethR, eAt, isObj, idxS, sn, e2]; subst hR; first | rw [Aft_nx] | rw [Aft_rt] | skip)
    (refine wp_seq (wp_gen fun R hR => ?_); simp! [sizeLine_eq, sz]; subst hR; first | rw [Aft_nx] | rw [Aft_rt] | skip)
    (refine wp_seq (wp_gen fun R hR => ?_); simp! [sizeLine_eq, opRev]; subst hR; first | rw [Aft_nx] | rw [Aft_rt] | skip)
    (refine wp_gen fun R hR => ?_; simp! [sizeLine_eq, er, eMethR, eAt, isObj, idxS, sn, e2]; subst hR)
    exact cq_rt (ds' := []) rfl ⟨rfl, rfl⟩)
  exact e
theorem made_ok {p : D} (hp : PotD p) (h1 : 1 ≤ n) (h2 : n ≤ 9) : ∃ p', PotD p' ∧ f_law_made [p, staD n ow S g dn un] = some (groD n ow 0 [] [] [], [p']) := by
  obtain ⟨a, p1, hp1, ha, e1⟩ := take_ok hp (m := 2) (by omega) (by omega)
  have i0 := init_ok (n := n) (ow := ow) h1 h2
  have i1 := init_ok (n := n) (ow := false) h1 h2
  simp only [nm] at e1 i0 i1
  cases ow
  · refine ⟨p1, hp1, ?_⟩
    by_cases z : a = 0
    · subst z
      simp! [f_law_made, d_law_made, pMakeD, pMake, e1, i1]
    · have : ¬ (a : Int) = 0 := by omega
      simp! [f_law_made, d_law_made, pMakeD, pMake, e1, i0, this, z]
  · refine ⟨p, hp, ?_⟩
    simp! [f_law_made, d_law_made, pMakeD, pMake, i0]
end
end VL
set_option maxHeartbeats 4000000
namespace VL
open PySem PySem.Spec PyProof.Rows L2
open GV (V3 Tis E3 lk Up Nd u1 Ok Chb Chu GI putA delA)
theorem sh_o3 {n : Nat} (o : Option V3) : D.sh false (n + 1) (o3D o) = true := by
  cases o with
  | none => exact sh_non
  | some v =>
    refine sh_tup.mpr fun d hd => ?_
    simp only [List.mem_cons, List.not_mem_nil, or_false] at hd
    rcases hd with rfl | rfl | rfl <;> exact sh_int _
theorem pEq_en (l : List E3) : pEq true [.lst (l.map enD), .lst []] = some (.bl (!decide (l = []))) :=
  pEq_dec (neg := true) (n := 4) (sh_lst.mpr fun d hd => by
    obtain ⟨e, _, rfl⟩ := List.mem_map.mp hd
    refine sh_tup.mpr fun d hd => ?_
    simp only [List.mem_cons, List.not_mem_nil, or_false] at hd
    rcases hd with rfl | rfl | rfl
    · exact sh_int _
    · exact sh_o3 _
    · exact sh_o3 _) (sh_lst.mpr fun d hd => by cases hd) (by omega) (l = []) (by
    constructor
    · rintro rfl; rfl
    · intro h
      have := D.lst.inj h
      simpa using this)
theorem pEq_en0 : pEq true [.lst [], .lst []] = some (.bl false) := by simpa using pEq_en []
theorem pEq_en1 (l : List E3) (e : E3) : pEq true [.lst ((List.map enD l).reverse ++ [enD e]), .lst []] = some (.bl true) := by
  have := pEq_en (e :: l).reverse
  simpa using this
section
variable {n g k : Nat} {ow : Bool} {st : Tis} {bs us : List Tis} {S : Tis} {dn un : List E3}
abbrev ldE (p G L : D) (m : Nat) (x4 x5 x6 x7 x8 x9 x10 : Option (Mode × D)) : Env := [some (.io, p), some (.io, G), some (.io, L), some (.arg, nm m), x4, x5, x6, x7, x8, x9, x10]
theorem ldeed_ok {p : D} (hp : PotD p) (I : GI n k g st bs us S dn un) (hk : k ≤ 100) (hg : g ≤ k) (h1 : 1 ≤ n) (h9 : n ≤ 9) {m : Nat} (hm : m ≤ if ow then 60 else 30) (hm0 : 0 < m) :
    ∃ p' G' L', PotD p' ∧ DeedR n ow (k + 1) G' L' ∧ f_law_deed [p, groD n ow g st bs us, staD n ow S g dn un, nm m] = some (.bl true, [G', L', p']) := by
  obtain ⟨w, p1, hp1, hw, e1⟩ := take_ok hp (m := 9) (by omega) (by omega)
  have so := sorted_S I.perm I.ok.up I.ok.len
  have hSl : S.length ≤ 60 := by rw [I.perm.length_eq]; exact I.ok.len
  have hbs : bs.length ≤ 1000 := by have := I.few; omega
  have hdl : dn.length ≤ 1000 := by rw [← I.cb.len]; exact hbs
  have aN := atomL_nm (st.map (·.1))
  obtain ⟨N, hN⟩ : ∃ N, N = st.map (·.1) := ⟨_, rfl⟩
  have lN : N.length = st.length := by rw [hN]; simp
  rw [← hN] at so aN
  have hw9 : w < 9 := by omega
  have w0 : ((w : Int) = 0) ↔ w = 0 := by omega
  have w1 : ((w : Int) = 1) ↔ w = 1 := by omega
  have w4 : ((4 : Int) < (w : Int)) ↔ 4 < w := by omega
  obtain ⟨d, ds', e, p', G', L', q1, q2, rfl, rfl⟩ := wp_call (S := d_law_deed) (N := 11) (J := [1, 2, 0]) (ds := [p, groD n ow g st bs us, staD n ow S g dn un, nm m]) (fun d ds' => ∃ p' G' L', PotD p' ∧ DeedR n ow (k + 1) G' L' ∧ d = .bl true ∧ ds' = [G', L', p']) (by
    have s0 : startE 11 [1, 2, 0] [p, groD n ow g st bs us, staD n ow S g dn un, nm m] = ldE p (groD n ow g st bs us) (staD n ow S g dn un) m none none none none none none none := by simp [startE]
    rw [s0]
    unfold d_law_deed
    simp only [nm] at e1
    (refine wp_seq (wp_gen fun R hR => ?_); simp! [sizeLine_eq, e1]; subst hR; first | rw [Aft_nx] | rw [Aft_rt] | skip)
    refine wp_seq (wp_eq (E' := ldE p1 (groD n ow g st bs us) (staD n ow S g dn un) m (some (.own, nm w)) (some (.own, lsD N)) none none none none none) ?_ ?_)
    · simp! [so, aN]
    rw [Aft_nx]
    by_cases b1 : w = 0 ∧ dn ≠ []
    · obtain ⟨rfl, b1⟩ := b1
      cases dn with
      | nil => exact absurd rfl b1
      | cons e dn =>
        cases bs with
        | nil => exact I.cb.elim
        | cons s bs =>
          have eb := lback_ok (ow := ow) I hk
          have I' := I.back (stA_nd I.nd) (fun y => stA_lk (S := S) (x := e.1) (o := e.2.1) y)
          refine wp_seq (wp_of (o := .rt (.bl true) (ldE p1 (groD n ow g s bs (st :: us)) (staD n ow (stA S e.1 e.2.1) g dn (e :: un)) m (some (.own, nm 0)) (some (.own, lsD N)) none none none none none)) ?_ ?_)
          · simp! [at6_4, at6_5, eb, pEq_en1]
          · rw [Aft_rt]
            exact cq_rt (ds' := _) rfl ⟨p1, _, _, hp1, ⟨g, _, _, _, _, _, _, I', by omega, rfl, rfl⟩, rfl, rfl⟩
    refine wp_seq (wp_eq (E' := ldE p1 (groD n ow g st bs us) (staD n ow S g dn un) m (some (.own, nm w)) (some (.own, lsD N)) none none none none none) ?_ ?_)
    · by_cases z : w = 0
      · have : dn = [] := by
          by_cases y : dn = []
          · exact y
          · exact absurd ⟨z, y⟩ b1
        subst this
        simp! [w0, z, at6_4, at6_5, pEq_en0]
      · simp! [w0, z]
    rw [Aft_nx]
    by_cases b2 : w = 1 ∧ un ≠ []
    · obtain ⟨rfl, b2⟩ := b2
      cases un with
      | nil => exact absurd rfl b2
      | cons e un =>
        cases us with
        | nil => exact I.cu.elim
        | cons u us =>
          have eb := lagain_ok (ow := ow) I hk
          have I' := I.again (stA_nd I.nd) (fun y => stA_lk (S := S) (x := e.1) (o := e.2.2) y)
          refine wp_seq (wp_of (o := .rt (.bl true) (ldE p1 (groD n ow g u (st :: bs) us) (staD n ow (stA S e.1 e.2.2) g (e :: dn) un) m (some (.own, nm 1)) (some (.own, lsD N)) none none none none none)) ?_ ?_)
          · simp! [at6_4, at6_5, eb, pEq_en1]
          · rw [Aft_rt]
            exact cq_rt (ds' := _) rfl ⟨p1, _, _, hp1, ⟨g, _, _, _, _, _, _, I', by omega, rfl, rfl⟩, rfl, rfl⟩
    refine wp_seq (wp_eq (E' := ldE p1 (groD n ow g st bs us) (staD n ow S g dn un) m (some (.own, nm w)) (some (.own, lsD N)) none none none none none) ?_ ?_)
    · by_cases z : w = 1
      · have : un = [] := by
          by_cases y : un = []
          · exact y
          · exact absurd ⟨z, y⟩ b2
        subst this
        simp! [w1, z, at6_4, at6_5, pEq_en0]
      · simp! [w1, z]
    rw [Aft_nx]
    by_cases b3 : st = [] ∨ (4 < w ∧ st.length < m)
    · by_cases hn1 : n = 1
      · subst hn1
        refine wp_seq (wp_of (o := .rt (.bl true) (ldE p1 (groD 1 ow g st bs us) (staD 1 ow S g dn un) m (some (.own, nm w)) (some (.own, lsD N)) none none none none none)) ?_ ?_)
        · rcases b3 with z | ⟨z1, z2⟩
          · subst z
            subst hN
            simp! [w4]
          · have l3 : (N.length : Int) < m := by omega
            have l4 : N.length < m := by omega
            by_cases y : N = []
            · subst y
              simp! [w4]
            · simp! [w4, z1, l3, l4, y]
        · rw [Aft_rt]
          exact cq_rt (ds' := _) rfl ⟨p1, _, _, hp1, ⟨g, _, _, _, _, _, _, I.mono (Nat.le_succ k), by omega, rfl, rfl⟩, rfl, rfl⟩
      · have hlt : st.length < if ow then 60 else 30 := by
          rcases b3 with z | ⟨z1, z2⟩
          · subst z
            cases ow <;> simp
          · exact Nat.lt_of_lt_of_le z2 hm
        obtain ⟨p2, G2, L2, hp2, hd, e2⟩ := lput_ok (ow := ow) hp1 I hk hg (by omega) h9 hlt
        have nn : ¬ (n : Int) = 1 := by omega
        refine wp_seq (wp_of (o := .rt (.bl true) (ldE p2 G2 L2 m (some (.own, nm w)) (some (.own, lsD N)) none none none none none)) ?_ ?_)
        · rcases b3 with z | ⟨z1, z2⟩
          · subst z
            subst hN
            simp! [w4, nn, hn1, e2]
          · have l3 : (N.length : Int) < m := by omega
            have l4 : N.length < m := by omega
            by_cases y : N = []
            · subst y
              simp! [w4, nn, hn1, e2]
            · simp! [w4, z1, l3, l4, y, nn, hn1, e2]
        · rw [Aft_rt]
          exact cq_rt (ds' := _) rfl ⟨p2, _, _, hp2, hd, rfl, rfl⟩
    have hne : st ≠ [] := fun z => b3 (.inl z)
    have hNne : N ≠ [] := fun z => hne (by rw [hN] at z; simpa using z)
    have lpos : 0 < N.length := by cases N with
    | nil => exact absurd rfl hNne
    | cons a l => simp
    refine wp_seq (wp_eq (E' := ldE p1 (groD n ow g st bs us) (staD n ow S g dn un) m (some (.own, nm w)) (some (.own, lsD N)) none none none none none) ?_ ?_)
    · by_cases z : 4 < w
      · have l4 : ¬ N.length < m := fun y => b3 (.inr ⟨z, by omega⟩)
        have l3 : ¬ (N.length : Int) < m := by omega
        simp! [w4, z, hNne, l3, l4]
      · simp! [w4, z, hNne]
    rw [Aft_nx]
    have hll : N.length ≤ 60 := by rw [lN]; exact I.ok.len
    obtain ⟨c, p2, hp2, hc, e2⟩ := take_ok hp1 (m := (N.length : Int)) (by omega) (by omega)
    have hcN : c < N.length := by omega
    have hcs : c < st.length := by omega
    obtain ⟨xv, hxv⟩ : ∃ xv, st[c]? = some xv := ⟨st[c], List.getElem?_eq_getElem hcs⟩
    obtain ⟨x, v⟩ := xv
    have hNx : N[c]? = some x := by rw [hN, List.getElem?_map, hxv]; rfl
    have haN : atI (N.map nm) (c : Int) = some (nm x) := by rw [atI_nat, List.getElem?_map, hNx]; rfl
    have hlx : lk st x = some v := GV.lk_of I.ok.up.nd (List.mem_of_getElem? hxv)
    have hlS : lk S x = some v := by rw [I.eq]; exact hlx
    simp only [nm] at e2 haN
    refine wp_seq (wp_eq (E' := ldE p2 (groD n ow g st bs us) (staD n ow S g dn un) m (some (.own, nm w)) (some (.own, lsD N)) (some (.own, nm x)) none none none none) ?_ ?_)
    · simp! [e2, haN]
    rw [Aft_nx]
    by_cases b4 : w % 2 = 0
    · have e3 := did_ok (n := n) (g := g) (ow := ow) (S := S) (dn := dn) (un := un) (x := x) (o := none) hSl hdl (fun _ => by rw [hlS]; simp)
      have e4 := mtake_ok (n := n) (ow := ow) (g := g) (us := us) I.ok.len I.ok.up.nd hbs hxv
      have I' := I.did (Nat.le_refl g) (x := x) (o := none) (st' := st.eraseIdx c) (S' := delA S x) (by rw [GV.erase_del I.ok.up.nd hxv]; exact I.ok.del x) (fun y => by rw [GV.erase_del I.ok.up.nd hxv]; exact GV.delA_lk y) (GV.delA_nd I.nd) (fun y => GV.delA_lk y) (fun _ => by rw [hlS]; simp)
      have b4' : (w : Int) % 2 = 0 := by omega
      simp only [nm, o3D] at e3 e4
      refine wp_seq (wp_of (o := .rt (.bl true) (ldE p2 (groD n ow g (st.eraseIdx c) (st :: bs) []) (staD n ow (delA S x) g ((x, lk S x, none) :: dn) []) m (some (.own, nm w)) (some (.own, lsD N)) (some (.own, nm x)) none none none none)) ?_ ?_)
      · simp! [b4', e3, eMethF, eCallF, eAt, isObj, idxS, sn, e4]
      · rw [Aft_rt]
        exact cq_rt (ds' := _) rfl ⟨p2, _, _, hp2, ⟨g, _, _, _, _, _, _, I', by omega, rfl, rfl⟩, rfl, rfl⟩
    have b4' : ¬ (w : Int) % 2 = 0 := by omega
    refine wp_seq (wp_eq (E' := ldE p2 (groD n ow g st bs us) (staD n ow S g dn un) m (some (.own, nm w)) (some (.own, lsD N)) (some (.own, nm x)) none none none none) ?_ ?_)
    · simp! [b4']
    rw [Aft_nx]
    have hv : (atK (dK S) (dV S) (Sum.inl (x : Int))) = some (v3D v) := by rw [atK_S, hlS]; rfl
    refine wp_seq (wp_eq (E' := ldE p2 (groD n ow g st bs us) (staD n ow S g dn un) m (some (.own, nm w)) (some (.own, lsD N)) (some (.own, nm x)) (some (.own, nm v.1)) (some (.own, nm v.2.1)) (some (.own, nm v.2.2)) none) ?_ ?_)
    · simp! [hv]
    rw [Aft_nx]
    obtain ⟨s1, p3, hp3, hs1, e5⟩ := strength_ok hp2
    obtain ⟨z, p4, hp4, hz, e6⟩ := take_ok hp3 (m := 4) (by omega) (by omega)
    have gv := I.ok.good (x, v) (List.mem_of_getElem? hxv)
    obtain ⟨s, hs, es⟩ : ∃ s : Nat, s < 10 ^ 60 ∧ atI [.int (v.2.2 : Int), .int (s1 : Int)] (if (0 : Int) < (z : Int) then 1 else 0) = some (nm s) := by
      by_cases y : z = 0
      · subst y
        exact ⟨v.2.2, gv.2.2.2, by simp [atI, ixN]⟩
      · have : (0 : Int) < (z : Int) := by omega
        exact ⟨s1, hs1, by rw [if_pos this]; simp [atI, ixN]⟩
    simp only [nm] at e5 e6 es
    have hzz : ((0 : Int) < (z : Int)) ↔ 0 < z := by omega
    simp only [hzz] at es
    refine wp_seq (wp_eq (E' := ldE p4 (groD n ow g st bs us) (staD n ow S g dn un) m (some (.own, nm w)) (some (.own, lsD N)) (some (.own, nm x)) (some (.own, nm v.1)) (some (.own, nm v.2.1)) (some (.own, nm v.2.2)) (some (.own, nm s))) ?_ ?_)
    · by_cases y : 0 < z
      · simp only [y, if_true] at es
        simp! [e5, e6, y, es, sizeLine_eq]
      · simp only [y, if_false] at es
        simp! [e5, e6, y, es, sizeLine_eq]
    rw [Aft_nx]
    have e3 := did_ok (n := n) (g := g) (ow := ow) (S := S) (dn := dn) (un := un) (x := x) (o := some (v.1, v.2.1, s)) hSl hdl (fun z => by cases z)
    have e4 := mstr_ok (n := n) (ow := ow) (g := g) (us := us) (s := s) I.ok.len I.ok.up.nd hbs hxv
    have I' := I.did (Nat.le_refl g) (x := x) (o := some (v.1, v.2.1, s)) (st' := st.set c (x, v.1, v.2.1, s)) (S' := putA S x (v.1, v.2.1, s)) (I.ok.set hxv ⟨gv.1, gv.2.1, gv.2.2.1, hs⟩) (fun y => GV.set_lk I.ok.up.nd hxv y) (GV.putA_nd I.nd) (fun y => GV.putA_lk y) (fun z => by cases z)
    simp only [nm, o3D, v3D] at e3 e4
    (refine wp_seq (wp_gen fun R hR => ?_); simp! [sizeLine_eq, e3, sizeLine_eq]; subst hR; first | rw [Aft_nx] | rw [Aft_rt] | skip)
    refine wp_of (o := .rt (.bl true) (ldE p4 (groD n ow g (st.set c (x, v.1, v.2.1, s)) (st :: bs) []) (staD n ow (putA S x (v.1, v.2.1, s)) g ((x, lk S x, some (v.1, v.2.1, s)) :: dn) []) m (some (.own, nm w)) (some (.own, lsD N)) (some (.own, nm x)) (some (.own, nm v.1)) (some (.own, nm v.2.1)) (some (.own, nm v.2.2)) (some (.own, nm s)))) ?_ ?_
    · simp! [eMethF, eCallF, eAt, isObj, idxS, sn, e4]
    · exact cq_rt (ds' := _) rfl ⟨p4, _, _, hp4, ⟨g, _, _, _, _, _, _, I', by omega, rfl, rfl⟩, rfl, rfl⟩)
  exact ⟨p', G', L', q1, q2, e⟩
end
end VL
set_option maxHeartbeats 4000000
namespace VL
open PySem PySem.Spec PyProof.Rows L2
open GV (V3 Tis E3 lk Up Nd u1 Ok Chb Chu GI putA delA)
abbrev lwE (ns : List Int) (x1 x2 x3 x4 : Option (Mode × D)) : Env := [some (.arg, .scr ns), x1, x2, x3, x4]
theorem law_true (ns : List Int) (hlen : ns.length ≤ 63) : f_law [.scr ns] = some (.bl true, []) := by
  obtain ⟨d, ds', e, rfl, rfl⟩ := wp_call (S := d_law) (N := 5) (J := []) (ds := [.scr ns]) (fun d ds' => d = .bl true ∧ ds' = []) (by
    have st : startE 5 [] [.scr ns] = lwE ns none none none none := by simp [startE]
    rw [st]
    unfold d_law
    obtain ⟨p0, hp0, e0⟩ := pot_ok ns (k := 0) (by omega)
    obtain ⟨n, ow, p1, hp1, n1, n9, e1⟩ := begun_ok hp0 (m := 9) (by omega) (by omega)
    obtain ⟨p2, hp2, e2⟩ := made_ok (n := n) (g := 0) (ow := ow) (S := []) (dn := []) (un := []) hp1 n1 n9
    have e3 := stands_ok (ow := ow) (GV.GI.start (n := n)) (by omega) n9
    simp [nm] at e0 e1
    (refine wp_seq (wp_gen fun R hR => ?_); simp! [sizeLine_eq, e0]; subst hR; first | rw [Aft_nx] | rw [Aft_rt] | skip)
    (refine wp_seq (wp_gen fun R hR => ?_); simp! [sizeLine_eq, e1]; subst hR; first | rw [Aft_nx] | rw [Aft_rt] | skip)
    (refine wp_seq (wp_gen fun R hR => ?_); simp! [sizeLine_eq, e2]; subst hR; first | rw [Aft_nx] | rw [Aft_rt] | skip)
    (refine wp_seq (wp_gen fun R hR => ?_); simp! [sizeLine_eq, e3]; subst hR; first | rw [Aft_nx] | rw [Aft_rt] | skip)
    obtain ⟨r, hr, hr1, hr2⟩ : ∃ r : Nat, r = max 7 (min 49 ns.length) ∧ 1 ≤ r ∧ r ≤ 49 := ⟨_, rfl, by omega, by omega⟩
    let EE : D → D → Option (Mode × D) → Env := fun G L x4 => lwE ns (some (.own, p2)) (some (.own, L)) (some (.own, G)) x4
    refine wp_seq (wp_for (ds := (List.range (r - 1)).map fun i => nm (1 + i)) (E1 := EE (groD n ow 0 [] [] []) (staD n ow [] 0 [] []) none) (fun i E => ∃ G L x4, DeedR n ow i G L ∧ E = EE G L x4) ?_ ?_ ?_ ?_)
    · have r1 := rg_1 r
      have r2 := rgOk_1 (n := r) (by omega)
      have f4 : (if (ns.length : Int) < (49 : Int) then (ns.length : Int) else (49 : Int)) = ((min 49 ns.length : Nat) : Int) := by split <;> omega
      have f5 : (if (7 : Int) < ((min 49 ns.length : Nat) : Int) then ((min 49 ns.length : Nat) : Int) else 7) = (r : Int) := by split <;> omega
      simp [nm] at r1 r2
      simp! [EE, pLen, pMin, pMax, f4, gt_iff_lt, f5, r1, r2]
    · exact ⟨_, _, none, ⟨0, _, _, _, _, _, _, GV.GI.start, Nat.le_refl _, rfl, rfl⟩, by simp [EE, freeze, Kind.S]⟩
    · rintro i d E hd ⟨G, L, x4, ⟨g, st, bs, us, S, dn, un, I, hg, rfl, rfl⟩, rfl⟩
      rw [List.getElem?_map] at hd
      obtain ⟨i', hi', rfl⟩ := Option.map_eq_some_iff.mp hd
      have hi0 := List.getElem?_range (n := r - 1) (i := i) (by have := (List.getElem?_eq_some_iff.mp hi').1; simpa using this)
      rw [hi0] at hi'
      cases hi'
      have hi2 : i < r - 1 := by have := (List.getElem?_eq_some_iff.mp hi0).1; simpa using this
      obtain ⟨q0, hq0, f0⟩ := pot_ok ns (k := 1 + i) (by omega)
      obtain ⟨q1, G', L', hq1, ⟨g', st', bs', us', S', dn', un', I', hg', rfl, rfl⟩, ed⟩ := ldeed_ok (ow := ow) hq0 I (by omega) hg n1 n9 (m := if ow then 60 else 30) (Nat.le_refl _) (by cases ow <;> simp)
      have e4 := stands_ok (ow := ow) I' (by omega) n9
      refine ⟨EE (groD n ow g st bs us) (staD n ow S g dn un) (some (.own, nm (1 + i))), by simp! [EE, putP], ?_⟩
      have fin : ∀ Q E, E = EE (groD n ow g' st' bs' us') (staD n ow S' g' dn' un') (some (.own, nm (1 + i))) → LoopQ (fun i E => ∃ G L x4, DeedR n ow i G L ∧ E = EE G L x4) i Q (.nx E) := fun Q E e => lq_nx ⟨_, _, _, ⟨g', _, _, _, _, _, _, I', hg', rfl, rfl⟩, e⟩
      generalize 1 + i = kk at *
      simp only [nm] at f0 ed
      have hm : atI [D.int 30, D.int 60] (if ow = true then 1 else 0) = some (.int ((if ow then 60 else 30 : Nat) : Int)) := by cases ow <;> simp [atI, ixN]
      generalize (if ow = true then 60 else 30 : Nat) = mm at *
      unfold d_law_1
      (refine wp_gen fun R hR => ?_; simp! [sizeLine_eq, EE, f0, eCallT, ed, hm, e4, sizeLine_eq]; subst hR)
      exact fin _ _ rfl
    · rintro E ⟨G, L, x4, _, rfl⟩
      rw [Aft_nx]
      (refine wp_gen fun R hR => ?_; simp! [sizeLine_eq, EE]; subst hR)
      exact cq_rt (ds' := []) rfl ⟨rfl, rfl⟩)
  exact e
end VL
set_option maxHeartbeats 4000000
namespace TA
open PySem PySem.Spec PyProof.Rows L2
open GxR (TabB TabG Tabbed)
theorem walkGTM {l : PySem.W.OpenLaw} {n k : Nat} {q : Program} {loose : List Str}
    {XP : (Str → Option Value) → Heap → Prop} {d : DefRec} {K : Params → PySem.W.Frag} {as : List Addr} {e : ∀ P, as = (K P).map (·.1)} {ts : List Addr}
    {x : Str} (hn : l.most = some n) (hn2 : n ≤ sizeLine) (hdf : d.params.defaults = []) (hr : Room k callerA)
    (F : ∀ (w : World) (mg : Str → Option Value) (fa : Addr) (h : Heap), (K w.params).In h → h.Ns mainGlobals mg →
      mg d.name = some (.ref fa) → ∃ (fd : FuncData) (cs : List (Addr × Addr)) (sp : Sp), (∀ p ∈ cs, PySem.W.codeHdIn (K w.params) p.1 p.2 = true ∧ p.2 ∈ ts) ∧ (∀ p ∈ cs, (K w.params).lookup p.2 = none) ∧
        (∀ (s : Shared) (u : Value), BindsTo s fd ⟨[u], []⟩ [(x, u)]) ∧
        (∀ (H : Hp) (a : Addr) (ns : List Int), ns.length ≤ n → (∀ p ∈ cs, TabG H p.2) → Kinds (K w.params) cs a H → SqL (K w.params) H a (ns.map V.int) → sp [.ref a] H (fun v _ => v = .bl true) fun _ _ _ => False) ∧
        ∀ b0 : Heap, (K w.params).In b0 → b0.Ns mainGlobals mg → (∀ p ∈ cs, TabB b0 mg p.1 p.2) → FnG l.prog w (K w.params) mg b0 CX0 k fa fd [x] sp) :
    PySem.W.WalkO q loose XP (PySem.W.kmHook K as e ts).says l.row.toRowW d [] (fun f vs => PySem.call f vs) := by
  refine Att.attach_call hn hdf fun w _ z mg mb fa o pm cd dc a vs ns G Y _ _ _ hmg ho hi hlen hg => ?_
  have KX := PySem.W.km_in_of Y
  obtain ⟨fd, cs, sp, ht, nT, hb, hsp, hF⟩ := F w mg fa _ KX G.T.g hmg
  refine lawGTK KX G.T.g G.T.b G.T.builtins G.T.nolimit hg (fun p hp => ?_) nT G.T.bmain ho hi (Nat.le_trans hlen hn2) hr hF hb (fun H hT kd hS => hsp H a ns hlen hT kd hS)
  exact ⟨PySem.W.codeHd_of_K KX (ht p hp).1, PySem.W.km_tabs_of Y _ (ht p hp).2⟩
end TA
set_option maxHeartbeats 8000000
namespace VL
open PySem PySem.Spec PyProof.Rows L2
open GxR (TabB TabG Tabbed)
theorem all_mk {ts : List Addr} {l : PySem.W.OpenLaw} {w : World} {K : PySem.W.Frag} {h : Heap} {mg : Str → Option Value} {fa : Addr} (X : K.In h) (G : h.Ns mainGlobals mg) (hfa : mg "law" = some (.ref fa))
    {fis_whole : Addr} {odis_whole anis_whole : Option Addr} {slis_whole : Array (Option Value)} {ocis_whole kVis_whole dcis_whole pmis_whole ctis_whole : Value} {cdis_whole : Value}
    (ais_whole : PySem.W.nsIn K mainGlobals "is_whole" = some (some (.ref fis_whole))) (lis_whole : K.lookup fis_whole = some ⟨ocis_whole, odis_whole, .func (PySem.W.fnOf "is_whole" "is_whole" (defArgs s_is_whole) (defBody s_is_whole) (defScope s_is_whole) .none kVis_whole dcis_whole pmis_whole anis_whole cdis_whole ctis_whole), slis_whole⟩)
    (cis_whole : PySem.W.codeIn K cdis_whole "is_whole" = true) (kis_whole : PySem.W.keepIn K (.ref fis_whole) = true)
    {fis_place : Addr} {odis_place anis_place : Option Addr} {slis_place : Array (Option Value)} {ocis_place kVis_place dcis_place pmis_place ctis_place : Value} {cdis_place : Value}
    (ais_place : PySem.W.nsIn K mainGlobals "is_place" = some (some (.ref fis_place))) (lis_place : K.lookup fis_place = some ⟨ocis_place, odis_place, .func (PySem.W.fnOf "is_place" "is_place" (defArgs s_is_place) (defBody s_is_place) (defScope s_is_place) .none kVis_place dcis_place pmis_place anis_place cdis_place ctis_place), slis_place⟩)
    (cis_place : PySem.W.codeIn K cdis_place "is_place" = true) (kis_place : PySem.W.keepIn K (.ref fis_place) = true)
    {frefuse_size : Addr} {odrefuse_size anrefuse_size : Option Addr} {slrefuse_size : Array (Option Value)} {ocrefuse_size kVrefuse_size dcrefuse_size pmrefuse_size ctrefuse_size : Value} {cdrefuse_size : Value}
    (arefuse_size : PySem.W.nsIn K mainGlobals "refuse_size" = some (some (.ref frefuse_size))) (lrefuse_size : K.lookup frefuse_size = some ⟨ocrefuse_size, odrefuse_size, .func (PySem.W.fnOf "refuse_size" "refuse_size" (defArgs s_refuse_size) (defBody s_refuse_size) (defScope s_refuse_size) .none kVrefuse_size dcrefuse_size pmrefuse_size anrefuse_size cdrefuse_size ctrefuse_size), slrefuse_size⟩)
    (crefuse_size : PySem.W.codeIn K cdrefuse_size "refuse_size" = true) (krefuse_size : PySem.W.keepIn K (.ref frefuse_size) = true)
    {fis_amount : Addr} {odis_amount anis_amount : Option Addr} {slis_amount : Array (Option Value)} {ocis_amount kVis_amount dcis_amount pmis_amount ctis_amount : Value} {cdis_amount : Value}
    (ais_amount : PySem.W.nsIn K mainGlobals "is_amount" = some (some (.ref fis_amount))) (lis_amount : K.lookup fis_amount = some ⟨ocis_amount, odis_amount, .func (PySem.W.fnOf "is_amount" "is_amount" (defArgs s_is_amount) (defBody s_is_amount) (defScope s_is_amount) .none kVis_amount dcis_amount pmis_amount anis_amount cdis_amount ctis_amount), slis_amount⟩)
    (cis_amount : PySem.W.codeIn K cdis_amount "is_amount" = true) (kis_amount : PySem.W.keepIn K (.ref fis_amount) = true)
    {frefuse_strength : Addr} {odrefuse_strength anrefuse_strength : Option Addr} {slrefuse_strength : Array (Option Value)} {ocrefuse_strength kVrefuse_strength dcrefuse_strength pmrefuse_strength ctrefuse_strength : Value} {cdrefuse_strength : Value}
    (arefuse_strength : PySem.W.nsIn K mainGlobals "refuse_strength" = some (some (.ref frefuse_strength))) (lrefuse_strength : K.lookup frefuse_strength = some ⟨ocrefuse_strength, odrefuse_strength, .func (PySem.W.fnOf "refuse_strength" "refuse_strength" (defArgs s_refuse_strength) (defBody s_refuse_strength) (defScope s_refuse_strength) .none kVrefuse_strength dcrefuse_strength pmrefuse_strength anrefuse_strength cdrefuse_strength ctrefuse_strength), slrefuse_strength⟩)
    (crefuse_strength : PySem.W.codeIn K cdrefuse_strength "refuse_strength" = true) (krefuse_strength : PySem.W.keepIn K (.ref frefuse_strength) = true)
    {frefuse_place : Addr} {odrefuse_place anrefuse_place : Option Addr} {slrefuse_place : Array (Option Value)} {ocrefuse_place kVrefuse_place dcrefuse_place pmrefuse_place ctrefuse_place : Value} {cdrefuse_place : Value}
    (arefuse_place : PySem.W.nsIn K mainGlobals "refuse_place" = some (some (.ref frefuse_place))) (lrefuse_place : K.lookup frefuse_place = some ⟨ocrefuse_place, odrefuse_place, .func (PySem.W.fnOf "refuse_place" "refuse_place" (defArgs s_refuse_place) (defBody s_refuse_place) (defScope s_refuse_place) .none kVrefuse_place dcrefuse_place pmrefuse_place anrefuse_place cdrefuse_place ctrefuse_place), slrefuse_place⟩)
    (crefuse_place : PySem.W.codeIn K cdrefuse_place "refuse_place" = true) (krefuse_place : PySem.W.keepIn K (.ref frefuse_place) = true)
    {frefuse_two_places : Addr} {odrefuse_two_places anrefuse_two_places : Option Addr} {slrefuse_two_places : Array (Option Value)} {ocrefuse_two_places kVrefuse_two_places dcrefuse_two_places pmrefuse_two_places ctrefuse_two_places : Value} {cdrefuse_two_places : Value}
    (arefuse_two_places : PySem.W.nsIn K mainGlobals "refuse_two_places" = some (some (.ref frefuse_two_places))) (lrefuse_two_places : K.lookup frefuse_two_places = some ⟨ocrefuse_two_places, odrefuse_two_places, .func (PySem.W.fnOf "refuse_two_places" "refuse_two_places" (defArgs s_refuse_two_places) (defBody s_refuse_two_places) (defScope s_refuse_two_places) .none kVrefuse_two_places dcrefuse_two_places pmrefuse_two_places anrefuse_two_places cdrefuse_two_places ctrefuse_two_places), slrefuse_two_places⟩)
    (crefuse_two_places : PySem.W.codeIn K cdrefuse_two_places "refuse_two_places" = true) (krefuse_two_places : PySem.W.keepIn K (.ref frefuse_two_places) = true)
    {flaw_nth : Addr} {odlaw_nth anlaw_nth : Option Addr} {sllaw_nth : Array (Option Value)} {oclaw_nth kVlaw_nth dclaw_nth pmlaw_nth ctlaw_nth : Value} {cdlaw_nth : Value}
    (alaw_nth : PySem.W.nsIn K mainGlobals "_law_nth" = some (some (.ref flaw_nth))) (llaw_nth : K.lookup flaw_nth = some ⟨oclaw_nth, odlaw_nth, .func (PySem.W.fnOf "_law_nth" "_law_nth" (defArgs s_law_nth) (defBody s_law_nth) (defScope s_law_nth) .none kVlaw_nth dclaw_nth pmlaw_nth anlaw_nth cdlaw_nth ctlaw_nth), sllaw_nth⟩)
    (claw_nth : PySem.W.codeIn K cdlaw_nth "_law_nth" = true) (klaw_nth : PySem.W.keepIn K (.ref flaw_nth) = true)
    {flaw_pot : Addr} {odlaw_pot anlaw_pot : Option Addr} {sllaw_pot : Array (Option Value)} {oclaw_pot kVlaw_pot dclaw_pot pmlaw_pot ctlaw_pot : Value} {cdlaw_pot : Value}
    (alaw_pot : PySem.W.nsIn K mainGlobals "_law_pot" = some (some (.ref flaw_pot))) (llaw_pot : K.lookup flaw_pot = some ⟨oclaw_pot, odlaw_pot, .func (PySem.W.fnOf "_law_pot" "_law_pot" (defArgs s_law_pot) (defBody s_law_pot) (defScope s_law_pot) .none kVlaw_pot dclaw_pot pmlaw_pot anlaw_pot cdlaw_pot ctlaw_pot), sllaw_pot⟩)
    (claw_pot : PySem.W.codeIn K cdlaw_pot "_law_pot" = true) (klaw_pot : PySem.W.keepIn K (.ref flaw_pot) = true)
    {flaw_take : Addr} {odlaw_take anlaw_take : Option Addr} {sllaw_take : Array (Option Value)} {oclaw_take kVlaw_take dclaw_take pmlaw_take ctlaw_take : Value} {cdlaw_take : Value}
    (alaw_take : PySem.W.nsIn K mainGlobals "_law_take" = some (some (.ref flaw_take))) (llaw_take : K.lookup flaw_take = some ⟨oclaw_take, odlaw_take, .func (PySem.W.fnOf "_law_take" "_law_take" (defArgs s_law_take) (defBody s_law_take) (defScope s_law_take) .none kVlaw_take dclaw_take pmlaw_take anlaw_take cdlaw_take ctlaw_take), sllaw_take⟩)
    (claw_take : PySem.W.codeIn K cdlaw_take "_law_take" = true) (klaw_take : PySem.W.keepIn K (.ref flaw_take) = true)
    {flaw_strength : Addr} {odlaw_strength anlaw_strength : Option Addr} {sllaw_strength : Array (Option Value)} {oclaw_strength kVlaw_strength dclaw_strength pmlaw_strength ctlaw_strength : Value} {cdlaw_strength : Value}
    (alaw_strength : PySem.W.nsIn K mainGlobals "_law_strength" = some (some (.ref flaw_strength))) (llaw_strength : K.lookup flaw_strength = some ⟨oclaw_strength, odlaw_strength, .func (PySem.W.fnOf "_law_strength" "_law_strength" (defArgs s_law_strength) (defBody s_law_strength) (defScope s_law_strength) .none kVlaw_strength dclaw_strength pmlaw_strength anlaw_strength cdlaw_strength ctlaw_strength), sllaw_strength⟩)
    (claw_strength : PySem.W.codeIn K cdlaw_strength "_law_strength" = true) (klaw_strength : PySem.W.keepIn K (.ref flaw_strength) = true)
    {flaw_begun : Addr} {odlaw_begun anlaw_begun : Option Addr} {sllaw_begun : Array (Option Value)} {oclaw_begun kVlaw_begun dclaw_begun pmlaw_begun ctlaw_begun : Value} {cdlaw_begun : Value}
    (alaw_begun : PySem.W.nsIn K mainGlobals "_law_begun" = some (some (.ref flaw_begun))) (llaw_begun : K.lookup flaw_begun = some ⟨oclaw_begun, odlaw_begun, .func (PySem.W.fnOf "_law_begun" "_law_begun" (defArgs s_law_begun) (defBody s_law_begun) (defScope s_law_begun) .none kVlaw_begun dclaw_begun pmlaw_begun anlaw_begun cdlaw_begun ctlaw_begun), sllaw_begun⟩)
    (claw_begun : PySem.W.codeIn K cdlaw_begun "_law_begun" = true) (klaw_begun : PySem.W.keepIn K (.ref flaw_begun) = true)
    {flaw_settle : Addr} {odlaw_settle anlaw_settle : Option Addr} {sllaw_settle : Array (Option Value)} {oclaw_settle kVlaw_settle dclaw_settle pmlaw_settle ctlaw_settle : Value} {cdlaw_settle : Value}
    (alaw_settle : PySem.W.nsIn K mainGlobals "_law_settle" = some (some (.ref flaw_settle))) (llaw_settle : K.lookup flaw_settle = some ⟨oclaw_settle, odlaw_settle, .func (PySem.W.fnOf "_law_settle" "_law_settle" (defArgs s_law_settle) (defBody s_law_settle) (defScope s_law_settle) .none kVlaw_settle dclaw_settle pmlaw_settle anlaw_settle cdlaw_settle ctlaw_settle), sllaw_settle⟩)
    (claw_settle : PySem.W.codeIn K cdlaw_settle "_law_settle" = true) (klaw_settle : PySem.W.keepIn K (.ref flaw_settle) = true)
    {flaw_did : Addr} {odlaw_did anlaw_did : Option Addr} {sllaw_did : Array (Option Value)} {oclaw_did kVlaw_did dclaw_did pmlaw_did ctlaw_did : Value} {cdlaw_did : Value}
    (alaw_did : PySem.W.nsIn K mainGlobals "_law_did" = some (some (.ref flaw_did))) (llaw_did : K.lookup flaw_did = some ⟨oclaw_did, odlaw_did, .func (PySem.W.fnOf "_law_did" "_law_did" (defArgs s_law_did) (defBody s_law_did) (defScope s_law_did) .none kVlaw_did dclaw_did pmlaw_did anlaw_did cdlaw_did ctlaw_did), sllaw_did⟩)
    (claw_did : PySem.W.codeIn K cdlaw_did "_law_did" = true) (klaw_did : PySem.W.keepIn K (.ref flaw_did) = true)
    {flaw_put : Addr} {odlaw_put anlaw_put : Option Addr} {sllaw_put : Array (Option Value)} {oclaw_put kVlaw_put dclaw_put pmlaw_put ctlaw_put : Value} {cdlaw_put : Value}
    (alaw_put : PySem.W.nsIn K mainGlobals "_law_put" = some (some (.ref flaw_put))) (llaw_put : K.lookup flaw_put = some ⟨oclaw_put, odlaw_put, .func (PySem.W.fnOf "_law_put" "_law_put" (defArgs s_law_put) (defBody s_law_put) (defScope s_law_put) .none kVlaw_put dclaw_put pmlaw_put anlaw_put cdlaw_put ctlaw_put), sllaw_put⟩)
    (claw_put : PySem.W.codeIn K cdlaw_put "_law_put" = true) (klaw_put : PySem.W.keepIn K (.ref flaw_put) = true)
    {flaw_gone_back : Addr} {odlaw_gone_back anlaw_gone_back : Option Addr} {sllaw_gone_back : Array (Option Value)} {oclaw_gone_back kVlaw_gone_back dclaw_gone_back pmlaw_gone_back ctlaw_gone_back : Value} {cdlaw_gone_back : Value}
    (alaw_gone_back : PySem.W.nsIn K mainGlobals "_law_gone_back" = some (some (.ref flaw_gone_back))) (llaw_gone_back : K.lookup flaw_gone_back = some ⟨oclaw_gone_back, odlaw_gone_back, .func (PySem.W.fnOf "_law_gone_back" "_law_gone_back" (defArgs s_law_gone_back) (defBody s_law_gone_back) (defScope s_law_gone_back) .none kVlaw_gone_back dclaw_gone_back pmlaw_gone_back anlaw_gone_back cdlaw_gone_back ctlaw_gone_back), sllaw_gone_back⟩)
    (claw_gone_back : PySem.W.codeIn K cdlaw_gone_back "_law_gone_back" = true) (klaw_gone_back : PySem.W.keepIn K (.ref flaw_gone_back) = true)
    {flaw_gone_on : Addr} {odlaw_gone_on anlaw_gone_on : Option Addr} {sllaw_gone_on : Array (Option Value)} {oclaw_gone_on kVlaw_gone_on dclaw_gone_on pmlaw_gone_on ctlaw_gone_on : Value} {cdlaw_gone_on : Value}
    (alaw_gone_on : PySem.W.nsIn K mainGlobals "_law_gone_on" = some (some (.ref flaw_gone_on))) (llaw_gone_on : K.lookup flaw_gone_on = some ⟨oclaw_gone_on, odlaw_gone_on, .func (PySem.W.fnOf "_law_gone_on" "_law_gone_on" (defArgs s_law_gone_on) (defBody s_law_gone_on) (defScope s_law_gone_on) .none kVlaw_gone_on dclaw_gone_on pmlaw_gone_on anlaw_gone_on cdlaw_gone_on ctlaw_gone_on), sllaw_gone_on⟩)
    (claw_gone_on : PySem.W.codeIn K cdlaw_gone_on "_law_gone_on" = true) (klaw_gone_on : PySem.W.keepIn K (.ref flaw_gone_on) = true)
    {flaw_deed : Addr} {odlaw_deed anlaw_deed : Option Addr} {sllaw_deed : Array (Option Value)} {oclaw_deed kVlaw_deed dclaw_deed pmlaw_deed ctlaw_deed : Value} {cdlaw_deed : Value}
    (alaw_deed : PySem.W.nsIn K mainGlobals "_law_deed" = some (some (.ref flaw_deed))) (llaw_deed : K.lookup flaw_deed = some ⟨oclaw_deed, odlaw_deed, .func (PySem.W.fnOf "_law_deed" "_law_deed" (defArgs s_law_deed) (defBody s_law_deed) (defScope s_law_deed) .none kVlaw_deed dclaw_deed pmlaw_deed anlaw_deed cdlaw_deed ctlaw_deed), sllaw_deed⟩)
    (claw_deed : PySem.W.codeIn K cdlaw_deed "_law_deed" = true) (klaw_deed : PySem.W.keepIn K (.ref flaw_deed) = true)
    {flaw_ties : Addr} {odlaw_ties anlaw_ties : Option Addr} {sllaw_ties : Array (Option Value)} {oclaw_ties kVlaw_ties dclaw_ties pmlaw_ties ctlaw_ties : Value} {cdlaw_ties : Value}
    (alaw_ties : PySem.W.nsIn K mainGlobals "_law_ties" = some (some (.ref flaw_ties))) (llaw_ties : K.lookup flaw_ties = some ⟨oclaw_ties, odlaw_ties, .func (PySem.W.fnOf "_law_ties" "_law_ties" (defArgs s_law_ties) (defBody s_law_ties) (defScope s_law_ties) .none kVlaw_ties dclaw_ties pmlaw_ties anlaw_ties cdlaw_ties ctlaw_ties), sllaw_ties⟩)
    (claw_ties : PySem.W.codeIn K cdlaw_ties "_law_ties" = true) (klaw_ties : PySem.W.keepIn K (.ref flaw_ties) = true)
    {flaw_made : Addr} {odlaw_made anlaw_made : Option Addr} {sllaw_made : Array (Option Value)} {oclaw_made kVlaw_made dclaw_made pmlaw_made ctlaw_made : Value} {cdlaw_made : Value}
    (alaw_made : PySem.W.nsIn K mainGlobals "_law_made" = some (some (.ref flaw_made))) (llaw_made : K.lookup flaw_made = some ⟨oclaw_made, odlaw_made, .func (PySem.W.fnOf "_law_made" "_law_made" (defArgs s_law_made) (defBody s_law_made) (defScope s_law_made) .none kVlaw_made dclaw_made pmlaw_made anlaw_made cdlaw_made ctlaw_made), sllaw_made⟩)
    (claw_made : PySem.W.codeIn K cdlaw_made "_law_made" = true) (klaw_made : PySem.W.keepIn K (.ref flaw_made) = true)
    {flaw_stands : Addr} {odlaw_stands anlaw_stands : Option Addr} {sllaw_stands : Array (Option Value)} {oclaw_stands kVlaw_stands dclaw_stands pmlaw_stands ctlaw_stands : Value} {cdlaw_stands : Value}
    (alaw_stands : PySem.W.nsIn K mainGlobals "_law_stands" = some (some (.ref flaw_stands))) (llaw_stands : K.lookup flaw_stands = some ⟨oclaw_stands, odlaw_stands, .func (PySem.W.fnOf "_law_stands" "_law_stands" (defArgs s_law_stands) (defBody s_law_stands) (defScope s_law_stands) .none kVlaw_stands dclaw_stands pmlaw_stands anlaw_stands cdlaw_stands ctlaw_stands), sllaw_stands⟩)
    (claw_stands : PySem.W.codeIn K cdlaw_stands "_law_stands" = true) (klaw_stands : PySem.W.keepIn K (.ref flaw_stands) = true)
    {flaw : Addr} {odlaw anlaw : Option Addr} {sllaw : Array (Option Value)} {oclaw kVlaw dclaw pmlaw ctlaw : Value} {cdlaw : Value}
    (alaw : PySem.W.nsIn K mainGlobals "law" = some (some (.ref flaw))) (llaw : K.lookup flaw = some ⟨oclaw, odlaw, .func (PySem.W.fnOf "law" "law" (defArgs s_law) (defBody s_law) (defScope s_law) .none kVlaw dclaw pmlaw anlaw cdlaw ctlaw), sllaw⟩)
    (claw : PySem.W.codeIn K cdlaw "law" = true) (klaw : PySem.W.keepIn K (.ref flaw) = true)
    {e_Grove : Addr}
    (ya_Grove : PySem.W.nsIn K mainGlobals "Grove" = some (some (.ref e_Grove)))
    (yb_Grove : PySem.W.plainGet K e_Grove Str.empty = true)
    (yc_Grove : PySem.W.hasDictIn K e_Grove = true)
    (yd_Grove : PySem.W.plainOver K e_Grove = true)
    (ye_Grove : PySem.W.findIn K (.ref e_Grove) "__setattr__" = some (some (.builtin "object.__setattr__")))
    (yf_Grove : PySem.W.makesIn K e_Grove = true)
    (yg_Grove : PySem.W.keepIn K (.ref e_Grove) = true)
    (yn_Grove_places : PySem.W.findIn K (.ref e_Grove) "places" = some none)
    (yn_Grove_one_way : PySem.W.findIn K (.ref e_Grove) "one_way" = some none)
    (yn_Grove_given : PySem.W.findIn K (.ref e_Grove) "given" = some none)
    (yn_Grove_standing : PySem.W.findIn K (.ref e_Grove) "standing" = some none)
    (yn_Grove_before : PySem.W.findIn K (.ref e_Grove) "before" = some none)
    (yn_Grove_undone : PySem.W.findIn K (.ref e_Grove) "undone" = some none)
    {fm_Grove_init : Addr} {odm_Grove_init anm_Grove_init : Option Addr} {slm_Grove_init : Array (Option Value)} {ocm_Grove_init kVm_Grove_init dcm_Grove_init pmm_Grove_init ctm_Grove_init : Value} {cdm_Grove_init : Value}
    {Tdm_Grove_init : Addr} {oTm_Grove_init : Value} {dTm_Grove_init : Option Addr} {itm_Grove_init : Array Value} {nTm_Grove_init : Nat} {sTm_Grove_init : Array (Option Value)}
    (yi_m_Grove_init : PySem.W.findIn K (.ref e_Grove) "__init__" = some (some (.ref fm_Grove_init)))
    (yl_m_Grove_init : K.lookup fm_Grove_init = some ⟨ocm_Grove_init, odm_Grove_init, .func (PySem.W.fnOf "__init__" "Grove.__init__" (defArgs s_m_Grove_init) (defBody s_m_Grove_init) (defScope s_m_Grove_init) (.ref Tdm_Grove_init) kVm_Grove_init dcm_Grove_init pmm_Grove_init anm_Grove_init cdm_Grove_init ctm_Grove_init), slm_Grove_init⟩)
    (yT_m_Grove_init : K.lookup Tdm_Grove_init = some ⟨oTm_Grove_init, dTm_Grove_init, .seq itm_Grove_init nTm_Grove_init, sTm_Grove_init⟩)
    (yV_m_Grove_init : itm_Grove_init = #[.bool false])
    (yh_m_Grove_init : PySem.W.codeIn K cdm_Grove_init "Grove.__init__" = true)
    (yk_m_Grove_init : PySem.W.keepIn K (.ref fm_Grove_init) = true)
    (yj_m_Grove_init : PySem.W.isFn K (.ref fm_Grove_init) = true)
    {fm_Grove_put : Addr} {odm_Grove_put anm_Grove_put : Option Addr} {slm_Grove_put : Array (Option Value)} {ocm_Grove_put kVm_Grove_put dcm_Grove_put pmm_Grove_put ctm_Grove_put : Value} {cdm_Grove_put : Value}
    (yi_m_Grove_put : PySem.W.findIn K (.ref e_Grove) "put" = some (some (.ref fm_Grove_put)))
    (yl_m_Grove_put : K.lookup fm_Grove_put = some ⟨ocm_Grove_put, odm_Grove_put, .func (PySem.W.fnOf "put" "Grove.put" (defArgs s_m_Grove_put) (defBody s_m_Grove_put) (defScope s_m_Grove_put) .none kVm_Grove_put dcm_Grove_put pmm_Grove_put anm_Grove_put cdm_Grove_put ctm_Grove_put), slm_Grove_put⟩)
    (yh_m_Grove_put : PySem.W.codeIn K cdm_Grove_put "Grove.put" = true)
    (yk_m_Grove_put : PySem.W.keepIn K (.ref fm_Grove_put) = true)
    (yj_m_Grove_put : PySem.W.isFn K (.ref fm_Grove_put) = true)
    {fm_Grove_take : Addr} {odm_Grove_take anm_Grove_take : Option Addr} {slm_Grove_take : Array (Option Value)} {ocm_Grove_take kVm_Grove_take dcm_Grove_take pmm_Grove_take ctm_Grove_take : Value} {cdm_Grove_take : Value}
    (yi_m_Grove_take : PySem.W.findIn K (.ref e_Grove) "take" = some (some (.ref fm_Grove_take)))
    (yl_m_Grove_take : K.lookup fm_Grove_take = some ⟨ocm_Grove_take, odm_Grove_take, .func (PySem.W.fnOf "take" "Grove.take" (defArgs s_m_Grove_take) (defBody s_m_Grove_take) (defScope s_m_Grove_take) .none kVm_Grove_take dcm_Grove_take pmm_Grove_take anm_Grove_take cdm_Grove_take ctm_Grove_take), slm_Grove_take⟩)
    (yh_m_Grove_take : PySem.W.codeIn K cdm_Grove_take "Grove.take" = true)
    (yk_m_Grove_take : PySem.W.keepIn K (.ref fm_Grove_take) = true)
    (yj_m_Grove_take : PySem.W.isFn K (.ref fm_Grove_take) = true)
    {fm_Grove_strengthen : Addr} {odm_Grove_strengthen anm_Grove_strengthen : Option Addr} {slm_Grove_strengthen : Array (Option Value)} {ocm_Grove_strengthen kVm_Grove_strengthen dcm_Grove_strengthen pmm_Grove_strengthen ctm_Grove_strengthen : Value} {cdm_Grove_strengthen : Value}
    (yi_m_Grove_strengthen : PySem.W.findIn K (.ref e_Grove) "strengthen" = some (some (.ref fm_Grove_strengthen)))
    (yl_m_Grove_strengthen : K.lookup fm_Grove_strengthen = some ⟨ocm_Grove_strengthen, odm_Grove_strengthen, .func (PySem.W.fnOf "strengthen" "Grove.strengthen" (defArgs s_m_Grove_strengthen) (defBody s_m_Grove_strengthen) (defScope s_m_Grove_strengthen) .none kVm_Grove_strengthen dcm_Grove_strengthen pmm_Grove_strengthen anm_Grove_strengthen cdm_Grove_strengthen ctm_Grove_strengthen), slm_Grove_strengthen⟩)
    (yh_m_Grove_strengthen : PySem.W.codeIn K cdm_Grove_strengthen "Grove.strengthen" = true)
    (yk_m_Grove_strengthen : PySem.W.keepIn K (.ref fm_Grove_strengthen) = true)
    (yj_m_Grove_strengthen : PySem.W.isFn K (.ref fm_Grove_strengthen) = true)
    {fm_Grove_become : Addr} {odm_Grove_become anm_Grove_become : Option Addr} {slm_Grove_become : Array (Option Value)} {ocm_Grove_become kVm_Grove_become dcm_Grove_become pmm_Grove_become ctm_Grove_become : Value} {cdm_Grove_become : Value}
    (yi_m_Grove_become : PySem.W.findIn K (.ref e_Grove) "become" = some (some (.ref fm_Grove_become)))
    (yl_m_Grove_become : K.lookup fm_Grove_become = some ⟨ocm_Grove_become, odm_Grove_become, .func (PySem.W.fnOf "become" "Grove.become" (defArgs s_m_Grove_become) (defBody s_m_Grove_become) (defScope s_m_Grove_become) .none kVm_Grove_become dcm_Grove_become pmm_Grove_become anm_Grove_become cdm_Grove_become ctm_Grove_become), slm_Grove_become⟩)
    (yh_m_Grove_become : PySem.W.codeIn K cdm_Grove_become "Grove.become" = true)
    (yk_m_Grove_become : PySem.W.keepIn K (.ref fm_Grove_become) = true)
    (yj_m_Grove_become : PySem.W.isFn K (.ref fm_Grove_become) = true)
    {fm_Grove_back : Addr} {odm_Grove_back anm_Grove_back : Option Addr} {slm_Grove_back : Array (Option Value)} {ocm_Grove_back kVm_Grove_back dcm_Grove_back pmm_Grove_back ctm_Grove_back : Value} {cdm_Grove_back : Value}
    (yi_m_Grove_back : PySem.W.findIn K (.ref e_Grove) "back" = some (some (.ref fm_Grove_back)))
    (yl_m_Grove_back : K.lookup fm_Grove_back = some ⟨ocm_Grove_back, odm_Grove_back, .func (PySem.W.fnOf "back" "Grove.back" (defArgs s_m_Grove_back) (defBody s_m_Grove_back) (defScope s_m_Grove_back) .none kVm_Grove_back dcm_Grove_back pmm_Grove_back anm_Grove_back cdm_Grove_back ctm_Grove_back), slm_Grove_back⟩)
    (yh_m_Grove_back : PySem.W.codeIn K cdm_Grove_back "Grove.back" = true)
    (yk_m_Grove_back : PySem.W.keepIn K (.ref fm_Grove_back) = true)
    (yj_m_Grove_back : PySem.W.isFn K (.ref fm_Grove_back) = true)
    {fm_Grove_again : Addr} {odm_Grove_again anm_Grove_again : Option Addr} {slm_Grove_again : Array (Option Value)} {ocm_Grove_again kVm_Grove_again dcm_Grove_again pmm_Grove_again ctm_Grove_again : Value} {cdm_Grove_again : Value}
    (yi_m_Grove_again : PySem.W.findIn K (.ref e_Grove) "again" = some (some (.ref fm_Grove_again)))
    (yl_m_Grove_again : K.lookup fm_Grove_again = some ⟨ocm_Grove_again, odm_Grove_again, .func (PySem.W.fnOf "again" "Grove.again" (defArgs s_m_Grove_again) (defBody s_m_Grove_again) (defScope s_m_Grove_again) .none kVm_Grove_again dcm_Grove_again pmm_Grove_again anm_Grove_again cdm_Grove_again ctm_Grove_again), slm_Grove_again⟩)
    (yh_m_Grove_again : PySem.W.codeIn K cdm_Grove_again "Grove.again" = true)
    (yk_m_Grove_again : PySem.W.keepIn K (.ref fm_Grove_again) = true)
    (yj_m_Grove_again : PySem.W.isFn K (.ref fm_Grove_again) = true)
    {fm_Grove_ties : Addr} {odm_Grove_ties anm_Grove_ties : Option Addr} {slm_Grove_ties : Array (Option Value)} {ocm_Grove_ties kVm_Grove_ties dcm_Grove_ties pmm_Grove_ties ctm_Grove_ties : Value} {cdm_Grove_ties : Value}
    (yi_m_Grove_ties : PySem.W.findIn K (.ref e_Grove) "ties" = some (some (.ref fm_Grove_ties)))
    (yl_m_Grove_ties : K.lookup fm_Grove_ties = some ⟨ocm_Grove_ties, odm_Grove_ties, .func (PySem.W.fnOf "ties" "Grove.ties" (defArgs s_m_Grove_ties) (defBody s_m_Grove_ties) (defScope s_m_Grove_ties) .none kVm_Grove_ties dcm_Grove_ties pmm_Grove_ties anm_Grove_ties cdm_Grove_ties ctm_Grove_ties), slm_Grove_ties⟩)
    (yh_m_Grove_ties : PySem.W.codeIn K cdm_Grove_ties "Grove.ties" = true)
    (yk_m_Grove_ties : PySem.W.keepIn K (.ref fm_Grove_ties) = true)
    (yj_m_Grove_ties : PySem.W.isFn K (.ref fm_Grove_ties) = true)
    {fm_Grove_laid_out : Addr} {odm_Grove_laid_out anm_Grove_laid_out : Option Addr} {slm_Grove_laid_out : Array (Option Value)} {ocm_Grove_laid_out kVm_Grove_laid_out dcm_Grove_laid_out pmm_Grove_laid_out ctm_Grove_laid_out : Value} {c_m_Grove_laid_out T_m_Grove_laid_out : Addr}
    (yi_m_Grove_laid_out : PySem.W.findIn K (.ref e_Grove) "laid_out" = some (some (.ref fm_Grove_laid_out)))
    (yl_m_Grove_laid_out : K.lookup fm_Grove_laid_out = some ⟨ocm_Grove_laid_out, odm_Grove_laid_out, .func (PySem.W.fnOf "laid_out" "Grove.laid_out" (defArgs s_m_Grove_laid_out) (defBody s_m_Grove_laid_out) (defScope s_m_Grove_laid_out) .none kVm_Grove_laid_out dcm_Grove_laid_out pmm_Grove_laid_out anm_Grove_laid_out (.ref c_m_Grove_laid_out) ctm_Grove_laid_out), slm_Grove_laid_out⟩)
    {em_Grove_laid_out : Value} {ddm_Grove_laid_out : Option Addr} {usm_Grove_laid_out : Array Value} {ssm_Grove_laid_out : Array (Option Value)}
    (tm_Grove_laid_out : K.lookup c_m_Grove_laid_out = some ⟨em_Grove_laid_out, ddm_Grove_laid_out, .fields usm_Grove_laid_out, ssm_Grove_laid_out⟩)
    (im_Grove_laid_out : usm_Grove_laid_out[11]? = some (.ref T_m_Grove_laid_out))
    (nm_Grove_laid_out : K.lookup T_m_Grove_laid_out = none)
    (Lm_Grove_laid_out : LamT.is T_m_Grove_laid_out = false)
    (yh_m_Grove_laid_out : PySem.W.codeIn K (.ref c_m_Grove_laid_out) "Grove.laid_out" = true)
    (yk_m_Grove_laid_out : PySem.W.keepIn K (.ref fm_Grove_laid_out) = true)
    (yj_m_Grove_laid_out : PySem.W.isFn K (.ref fm_Grove_laid_out) = true)
    {fm_Grove_numbers : Addr} {odm_Grove_numbers anm_Grove_numbers : Option Addr} {slm_Grove_numbers : Array (Option Value)} {ocm_Grove_numbers kVm_Grove_numbers dcm_Grove_numbers pmm_Grove_numbers ctm_Grove_numbers : Value} {cdm_Grove_numbers : Value}
    (yi_m_Grove_numbers : PySem.W.findIn K (.ref e_Grove) "numbers" = some (some (.ref fm_Grove_numbers)))
    (yl_m_Grove_numbers : K.lookup fm_Grove_numbers = some ⟨ocm_Grove_numbers, odm_Grove_numbers, .func (PySem.W.fnOf "numbers" "Grove.numbers" (defArgs s_m_Grove_numbers) (defBody s_m_Grove_numbers) (defScope s_m_Grove_numbers) .none kVm_Grove_numbers dcm_Grove_numbers pmm_Grove_numbers anm_Grove_numbers cdm_Grove_numbers ctm_Grove_numbers), slm_Grove_numbers⟩)
    (yh_m_Grove_numbers : PySem.W.codeIn K cdm_Grove_numbers "Grove.numbers" = true)
    (yk_m_Grove_numbers : PySem.W.keepIn K (.ref fm_Grove_numbers) = true)
    (yj_m_Grove_numbers : PySem.W.isFn K (.ref fm_Grove_numbers) = true)
    {fm_Grove_spot_of : Addr} {odm_Grove_spot_of anm_Grove_spot_of : Option Addr} {slm_Grove_spot_of : Array (Option Value)} {ocm_Grove_spot_of kVm_Grove_spot_of dcm_Grove_spot_of pmm_Grove_spot_of ctm_Grove_spot_of : Value} {cdm_Grove_spot_of : Value}
    (yi_m_Grove_spot_of : PySem.W.findIn K (.ref e_Grove) "spot_of" = some (some (.ref fm_Grove_spot_of)))
    (yl_m_Grove_spot_of : K.lookup fm_Grove_spot_of = some ⟨ocm_Grove_spot_of, odm_Grove_spot_of, .func (PySem.W.fnOf "spot_of" "Grove.spot_of" (defArgs s_m_Grove_spot_of) (defBody s_m_Grove_spot_of) (defScope s_m_Grove_spot_of) .none kVm_Grove_spot_of dcm_Grove_spot_of pmm_Grove_spot_of anm_Grove_spot_of cdm_Grove_spot_of ctm_Grove_spot_of), slm_Grove_spot_of⟩)
    (yh_m_Grove_spot_of : PySem.W.codeIn K cdm_Grove_spot_of "Grove.spot_of" = true)
    (yk_m_Grove_spot_of : PySem.W.keepIn K (.ref fm_Grove_spot_of) = true)
    (yj_m_Grove_spot_of : PySem.W.isFn K (.ref fm_Grove_spot_of) = true)
    (hhm_Grove_laid_out : PySem.W.codeHdIn K c_m_Grove_laid_out T_m_Grove_laid_out = true)
    (hmm_Grove_laid_out : T_m_Grove_laid_out ∈ ts)
    (z0 : PySem.W.nsIn K mainGlobals "abs" = some none)
    (z1 : PySem.W.nsIn K mainGlobals "bool" = some none)
    (z2 : PySem.W.nsIn K mainGlobals "divmod" = some none)
    (z3 : PySem.W.nsIn K mainGlobals "int" = some none)
    (z4 : PySem.W.nsIn K mainGlobals "isinstance" = some none)
    (z5 : PySem.W.nsIn K mainGlobals "len" = some none)
    (z6 : PySem.W.nsIn K mainGlobals "list" = some none)
    (z7 : PySem.W.nsIn K mainGlobals "max" = some none)
    (z8 : PySem.W.nsIn K mainGlobals "min" = some none)
    (z9 : PySem.W.nsIn K mainGlobals "range" = some none)
    (z10 : PySem.W.nsIn K mainGlobals "repr" = some none)
    (z11 : PySem.W.nsIn K mainGlobals "sorted" = some none)
    (z12 : PySem.W.nsIn K mainGlobals "tuple" = some none)
    {tMOST_LANES : Tok} (wMOST_LANES : PySem.W.nsIn K mainGlobals "MOST_LANES" = some (some (.int 60 tMOST_LANES)))
    {tMOST_PLACES : Tok} (wMOST_PLACES : PySem.W.nsIn K mainGlobals "MOST_PLACES" = some (some (.int 9 tMOST_PLACES)))
    {tMOST_TIES : Tok} (wMOST_TIES : PySem.W.nsIn K mainGlobals "MOST_TIES" = some (some (.int 30 tMOST_TIES)))
    : ∃ (fd : FuncData) (cs : List (Addr × Addr)) (sp : Sp), (∀ p ∈ cs, PySem.W.codeHdIn K p.1 p.2 = true ∧ p.2 ∈ ts) ∧ (∀ p ∈ cs, K.lookup p.2 = none) ∧ (∀ (s : Shared) (v : Value), BindsTo s fd ⟨[v], []⟩ [("_law_script", v)]) ∧ (∀ (H : Hp) (a : Addr) (ns : List Int), ns.length ≤ 63 → (∀ p ∈ cs, GxR.TabG H p.2) → TA.Kinds K cs a H → SqL K H a (ns.map V.int) → sp [.ref a] H (fun v _ => v = .bl true) fun _ _ _ => False) ∧ ∀ b0 : Heap, K.In b0 → b0.Ns mainGlobals mg → (∀ p ∈ cs, GxR.TabB b0 mg p.1 p.2) → TA.FnG l.prog w K mg b0 CX0 8 fa fd ["_law_script"] sp := by
  have e := hfa.symm.trans (PySem.W.mg_of X G alaw)
  cases e
  have F_is_whole := fun_mk (st := s_is_whole) lis_whole cis_whole kis_whole
  have b_is_whole := F_is_whole.binds (ps := ["thing"]) fun _ _ _ _ _ _ us hl => match us, hl with | [_], _ => rfl
  have g_is_whole := PySem.W.mg_of X G ais_whole
  have F_is_place := fun_mk (st := s_is_place) lis_place cis_place kis_place
  have b_is_place := F_is_place.binds (ps := ["places", "thing"]) fun _ _ _ _ _ _ us hl => match us, hl with | [_, _], _ => rfl
  have g_is_place := PySem.W.mg_of X G ais_place
  have F_refuse_size := fun_mk (st := s_refuse_size) lrefuse_size crefuse_size krefuse_size
  have b_refuse_size := F_refuse_size.binds (ps := ["places"]) fun _ _ _ _ _ _ us hl => match us, hl with | [_], _ => rfl
  have g_refuse_size := PySem.W.mg_of X G arefuse_size
  have F_is_amount := fun_mk (st := s_is_amount) lis_amount cis_amount kis_amount
  have b_is_amount := F_is_amount.binds (ps := ["thing"]) fun _ _ _ _ _ _ us hl => match us, hl with | [_], _ => rfl
  have g_is_amount := PySem.W.mg_of X G ais_amount
  have F_refuse_strength := fun_mk (st := s_refuse_strength) lrefuse_strength crefuse_strength krefuse_strength
  have b_refuse_strength := F_refuse_strength.binds (ps := ["thing"]) fun _ _ _ _ _ _ us hl => match us, hl with | [_], _ => rfl
  have g_refuse_strength := PySem.W.mg_of X G arefuse_strength
  have F_refuse_place := fun_mk (st := s_refuse_place) lrefuse_place crefuse_place krefuse_place
  have b_refuse_place := F_refuse_place.binds (ps := ["web", "thing"]) fun _ _ _ _ _ _ us hl => match us, hl with | [_, _], _ => rfl
  have g_refuse_place := PySem.W.mg_of X G arefuse_place
  have F_refuse_two_places := fun_mk (st := s_refuse_two_places) lrefuse_two_places crefuse_two_places krefuse_two_places
  have b_refuse_two_places := F_refuse_two_places.binds (ps := ["web", "a", "b"]) fun _ _ _ _ _ _ us hl => match us, hl with | [_, _, _], _ => rfl
  have g_refuse_two_places := PySem.W.mg_of X G arefuse_two_places
  have F_law_nth := fun_mk (st := s_law_nth) llaw_nth claw_nth klaw_nth
  have b_law_nth := F_law_nth.binds (ps := ["_law_script", "_law_k"]) fun _ _ _ _ _ _ us hl => match us, hl with | [_, _], _ => rfl
  have g_law_nth := PySem.W.mg_of X G alaw_nth
  have F_law_pot := fun_mk (st := s_law_pot) llaw_pot claw_pot klaw_pot
  have b_law_pot := F_law_pot.binds (ps := ["_law_script", "_law_k"]) fun _ _ _ _ _ _ us hl => match us, hl with | [_, _], _ => rfl
  have g_law_pot := PySem.W.mg_of X G alaw_pot
  have F_law_take := fun_mk (st := s_law_take) llaw_take claw_take klaw_take
  have b_law_take := F_law_take.binds (ps := ["_law_pot_here", "_law_many"]) fun _ _ _ _ _ _ us hl => match us, hl with | [_, _], _ => rfl
  have g_law_take := PySem.W.mg_of X G alaw_take
  have F_law_strength := fun_mk (st := s_law_strength) llaw_strength claw_strength klaw_strength
  have b_law_strength := F_law_strength.binds (ps := ["_law_pot_here"]) fun _ _ _ _ _ _ us hl => match us, hl with | [_], _ => rfl
  have g_law_strength := PySem.W.mg_of X G alaw_strength
  have F_law_begun := fun_mk (st := s_law_begun) llaw_begun claw_begun klaw_begun
  have b_law_begun := F_law_begun.binds (ps := ["_law_pot_here", "_law_most"]) fun _ _ _ _ _ _ us hl => match us, hl with | [_, _], _ => rfl
  have g_law_begun := PySem.W.mg_of X G alaw_begun
  have F_law_settle := fun_mk (st := s_law_settle) llaw_settle claw_settle klaw_settle
  have b_law_settle := F_law_settle.binds (ps := ["_law_stand", "_law_number", "_law_tie"]) fun _ _ _ _ _ _ us hl => match us, hl with | [_, _, _], _ => rfl
  have g_law_settle := PySem.W.mg_of X G alaw_settle
  have F_law_did := fun_mk (st := s_law_did) llaw_did claw_did klaw_did
  have b_law_did := F_law_did.binds (ps := ["_law_state", "_law_number", "_law_tie"]) fun _ _ _ _ _ _ us hl => match us, hl with | [_, _, _], _ => rfl
  have g_law_did := PySem.W.mg_of X G alaw_did
  have F_law_put := fun_mk (st := s_law_put) llaw_put claw_put klaw_put
  have b_law_put := F_law_put.binds (ps := ["_law_pot_here", "_law_grove", "_law_state"]) fun _ _ _ _ _ _ us hl => match us, hl with | [_, _, _], _ => rfl
  have g_law_put := PySem.W.mg_of X G alaw_put
  have F_law_gone_back := fun_mk (st := s_law_gone_back) llaw_gone_back claw_gone_back klaw_gone_back
  have b_law_gone_back := F_law_gone_back.binds (ps := ["_law_grove", "_law_state"]) fun _ _ _ _ _ _ us hl => match us, hl with | [_, _], _ => rfl
  have g_law_gone_back := PySem.W.mg_of X G alaw_gone_back
  have F_law_gone_on := fun_mk (st := s_law_gone_on) llaw_gone_on claw_gone_on klaw_gone_on
  have b_law_gone_on := F_law_gone_on.binds (ps := ["_law_grove", "_law_state"]) fun _ _ _ _ _ _ us hl => match us, hl with | [_, _], _ => rfl
  have g_law_gone_on := PySem.W.mg_of X G alaw_gone_on
  have F_law_deed := fun_mk (st := s_law_deed) llaw_deed claw_deed klaw_deed
  have b_law_deed := F_law_deed.binds (ps := ["_law_pot_here", "_law_grove", "_law_state", "_law_most"]) fun _ _ _ _ _ _ us hl => match us, hl with | [_, _, _, _], _ => rfl
  have g_law_deed := PySem.W.mg_of X G alaw_deed
  have F_law_ties := fun_mk (st := s_law_ties) llaw_ties claw_ties klaw_ties
  have b_law_ties := F_law_ties.binds (ps := ["_law_state"]) fun _ _ _ _ _ _ us hl => match us, hl with | [_], _ => rfl
  have g_law_ties := PySem.W.mg_of X G alaw_ties
  have F_law_made := fun_mk (st := s_law_made) llaw_made claw_made klaw_made
  have b_law_made := F_law_made.binds (ps := ["_law_pot_here", "_law_state"]) fun _ _ _ _ _ _ us hl => match us, hl with | [_, _], _ => rfl
  have g_law_made := PySem.W.mg_of X G alaw_made
  have F_law_stands := fun_mk (st := s_law_stands) llaw_stands claw_stands klaw_stands
  have b_law_stands := F_law_stands.binds (ps := ["_law_grove", "_law_state"]) fun _ _ _ _ _ _ us hl => match us, hl with | [_, _], _ => rfl
  have g_law_stands := PySem.W.mg_of X G alaw_stands
  have F_law := fun_mk (st := s_law) llaw claw klaw
  have b_law := F_law.binds (ps := ["_law_script"]) fun _ _ _ _ _ _ us hl => match us, hl with | [_], _ => rfl
  have g_law := PySem.W.mg_of X G alaw
  have r_m_Grove_init : Vals [(V.bl false)] itm_Grove_init.toList := by
    subst yV_m_Grove_init
    exact .cons rfl .nil
  have F_m_Grove_init := fun_mkD (st := s_m_Grove_init) yl_m_Grove_init yh_m_Grove_init yk_m_Grove_init yT_m_Grove_init r_m_Grove_init
  have b_m_Grove_init := F_m_Grove_init.binds (ps := ["self", "places", "one_way"]) fun _ _ _ _ _ _ _ us its hl hi => match us, its, hl, hi with | [_, _, _], [_], _, _ => ⟨_, rfl, rfl⟩
  obtain ⟨ds_m_Grove_init, v_m_Grove_init, bd_m_Grove_init⟩ := F_m_Grove_init.bindsD (ps := ["self", "places", "one_way"]) fun _ _ _ _ _ _ _ us its hl hi => match us, its, hl, hi with | [_, _], [_], _, _ => ⟨_, rfl, rfl⟩
  have F_m_Grove_put := fun_mk (st := s_m_Grove_put) yl_m_Grove_put yh_m_Grove_put yk_m_Grove_put
  have b_m_Grove_put := F_m_Grove_put.binds (ps := ["self", "a", "b", "strength"]) fun _ _ _ _ _ _ us hl => match us, hl with | [_, _, _, _], _ => rfl
  have F_m_Grove_take := fun_mk (st := s_m_Grove_take) yl_m_Grove_take yh_m_Grove_take yk_m_Grove_take
  have b_m_Grove_take := F_m_Grove_take.binds (ps := ["self", "number"]) fun _ _ _ _ _ _ us hl => match us, hl with | [_, _], _ => rfl
  have F_m_Grove_strengthen := fun_mk (st := s_m_Grove_strengthen) yl_m_Grove_strengthen yh_m_Grove_strengthen yk_m_Grove_strengthen
  have b_m_Grove_strengthen := F_m_Grove_strengthen.binds (ps := ["self", "number", "strength"]) fun _ _ _ _ _ _ us hl => match us, hl with | [_, _, _], _ => rfl
  have F_m_Grove_become := fun_mk (st := s_m_Grove_become) yl_m_Grove_become yh_m_Grove_become yk_m_Grove_become
  have b_m_Grove_become := F_m_Grove_become.binds (ps := ["self", "standing"]) fun _ _ _ _ _ _ us hl => match us, hl with | [_, _], _ => rfl
  have F_m_Grove_back := fun_mk (st := s_m_Grove_back) yl_m_Grove_back yh_m_Grove_back yk_m_Grove_back
  have b_m_Grove_back := F_m_Grove_back.binds (ps := ["self"]) fun _ _ _ _ _ _ us hl => match us, hl with | [_], _ => rfl
  have F_m_Grove_again := fun_mk (st := s_m_Grove_again) yl_m_Grove_again yh_m_Grove_again yk_m_Grove_again
  have b_m_Grove_again := F_m_Grove_again.binds (ps := ["self"]) fun _ _ _ _ _ _ us hl => match us, hl with | [_], _ => rfl
  have F_m_Grove_ties := fun_mk (st := s_m_Grove_ties) yl_m_Grove_ties yh_m_Grove_ties yk_m_Grove_ties
  have b_m_Grove_ties := F_m_Grove_ties.binds (ps := ["self"]) fun _ _ _ _ _ _ us hl => match us, hl with | [_], _ => rfl
  have F_m_Grove_laid_out := fun_mk (st := s_m_Grove_laid_out) yl_m_Grove_laid_out yh_m_Grove_laid_out yk_m_Grove_laid_out
  have b_m_Grove_laid_out := F_m_Grove_laid_out.binds (ps := ["self"]) fun _ _ _ _ _ _ us hl => match us, hl with | [_], _ => rfl
  have F_m_Grove_numbers := fun_mk (st := s_m_Grove_numbers) yl_m_Grove_numbers yh_m_Grove_numbers yk_m_Grove_numbers
  have b_m_Grove_numbers := F_m_Grove_numbers.binds (ps := ["self"]) fun _ _ _ _ _ _ us hl => match us, hl with | [_], _ => rfl
  have F_m_Grove_spot_of := fun_mk (st := s_m_Grove_spot_of) yl_m_Grove_spot_of yh_m_Grove_spot_of yk_m_Grove_spot_of
  have b_m_Grove_spot_of := F_m_Grove_spot_of.binds (ps := ["self", "number"]) fun _ _ _ _ _ _ us hl => match us, hl with | [_, _], _ => rfl
  have m_abs := PySem.W.mg_none_of X G z0
  have m_bool := PySem.W.mg_none_of X G z1
  have m_divmod := PySem.W.mg_none_of X G z2
  have m_int := PySem.W.mg_none_of X G z3
  have m_isinstance := PySem.W.mg_none_of X G z4
  have m_len := PySem.W.mg_none_of X G z5
  have m_list := PySem.W.mg_none_of X G z6
  have m_max := PySem.W.mg_none_of X G z7
  have m_min := PySem.W.mg_none_of X G z8
  have m_range := PySem.W.mg_none_of X G z9
  have m_repr := PySem.W.mg_none_of X G z10
  have m_sorted := PySem.W.mg_none_of X G z11
  have m_tuple := PySem.W.mg_none_of X G z12
  have c_MOST_LANES : ∃ t, mg "MOST_LANES" = some (.int 60 t) := ⟨_, PySem.W.mg_of X G wMOST_LANES⟩
  have c_MOST_PLACES : ∃ t, mg "MOST_PLACES" = some (.int 9 t) := ⟨_, PySem.W.mg_of X G wMOST_PLACES⟩
  have c_MOST_TIES : ∃ t, mg "MOST_TIES" = some (.int 30 t) := ⟨_, PySem.W.mg_of X G wMOST_TIES⟩
  refine ⟨PySem.W.fnOf "law" "law" (defArgs s_law) (defBody s_law) (defScope s_law) .none kVlaw dclaw pmlaw anlaw cdlaw ctlaw, [(c_m_Grove_laid_out, T_m_Grove_laid_out)], spV ⟨K, [T_m_Grove_laid_out], fun n => ([0, 0, 0, 0, 0, 0, 0, 0, 0, 0, 0, 0, 0, 0, 0, 0, e_Grove] : List Addr).getD n 0, none⟩ [] true 1 f_law, fun p hp => ?_, fun p hp => ?_, fun s v => .of_eq rfl, fun H a ns hl hT kd hS => ?_, fun b0 _ _ hTB => ?_⟩
  · simp only [List.mem_cons, List.not_mem_nil, or_false] at hp
    rcases hp with rfl
    · exact ⟨hhm_Grove_laid_out, hmm_Grove_laid_out⟩
  · simp only [List.mem_cons, List.not_mem_nil, or_false] at hp
    rcases hp with rfl
    · exact nm_Grove_laid_out
  · refine law_endT (fun T hT' => ?_) kd hS (law_true ns hl)
    simp only [List.mem_cons, List.not_mem_nil, or_false] at hT'
    · rw [hT']; exact hT (c_m_Grove_laid_out, T_m_Grove_laid_out) (by simp)
  · let Q : Fx ⟨K, [T_m_Grove_laid_out], fun n => ([0, 0, 0, 0, 0, 0, 0, 0, 0, 0, 0, 0, 0, 0, 0, 0, e_Grove] : List Addr).getD n 0, none⟩ mg b0 := { a_is_whole := _, fd_is_whole := _, F_is_whole := F_is_whole, b_is_whole := b_is_whole, g_is_whole := g_is_whole, a_is_place := _, fd_is_place := _, F_is_place := F_is_place, b_is_place := b_is_place, g_is_place := g_is_place, a_refuse_size := _, fd_refuse_size := _, F_refuse_size := F_refuse_size, b_refuse_size := b_refuse_size, g_refuse_size := g_refuse_size, a_is_amount := _, fd_is_amount := _, F_is_amount := F_is_amount, b_is_amount := b_is_amount, g_is_amount := g_is_amount, a_refuse_strength := _, fd_refuse_strength := _, F_refuse_strength := F_refuse_strength, b_refuse_strength := b_refuse_strength, g_refuse_strength := g_refuse_strength, a_refuse_place := _, fd_refuse_place := _, F_refuse_place := F_refuse_place, b_refuse_place := b_refuse_place, g_refuse_place := g_refuse_place, a_refuse_two_places := _, fd_refuse_two_places := _, F_refuse_two_places := F_refuse_two_places, b_refuse_two_places := b_refuse_two_places, g_refuse_two_places := g_refuse_two_places, a_law_nth := _, fd_law_nth := _, F_law_nth := F_law_nth, b_law_nth := b_law_nth, g_law_nth := g_law_nth, a_law_pot := _, fd_law_pot := _, F_law_pot := F_law_pot, b_law_pot := b_law_pot, g_law_pot := g_law_pot, a_law_take := _, fd_law_take := _, F_law_take := F_law_take, b_law_take := b_law_take, g_law_take := g_law_take, a_law_strength := _, fd_law_strength := _, F_law_strength := F_law_strength, b_law_strength := b_law_strength, g_law_strength := g_law_strength, a_law_begun := _, fd_law_begun := _, F_law_begun := F_law_begun, b_law_begun := b_law_begun, g_law_begun := g_law_begun, a_law_settle := _, fd_law_settle := _, F_law_settle := F_law_settle, b_law_settle := b_law_settle, g_law_settle := g_law_settle, a_law_did := _, fd_law_did := _, F_law_did := F_law_did, b_law_did := b_law_did, g_law_did := g_law_did, a_law_put := _, fd_law_put := _, F_law_put := F_law_put, b_law_put := b_law_put, g_law_put := g_law_put, a_law_gone_back := _, fd_law_gone_back := _, F_law_gone_back := F_law_gone_back, b_law_gone_back := b_law_gone_back, g_law_gone_back := g_law_gone_back, a_law_gone_on := _, fd_law_gone_on := _, F_law_gone_on := F_law_gone_on, b_law_gone_on := b_law_gone_on, g_law_gone_on := g_law_gone_on, a_law_deed := _, fd_law_deed := _, F_law_deed := F_law_deed, b_law_deed := b_law_deed, g_law_deed := g_law_deed, a_law_ties := _, fd_law_ties := _, F_law_ties := F_law_ties, b_law_ties := b_law_ties, g_law_ties := g_law_ties, a_law_made := _, fd_law_made := _, F_law_made := F_law_made, b_law_made := b_law_made, g_law_made := g_law_made, a_law_stands := _, fd_law_stands := _, F_law_stands := F_law_stands, b_law_stands := b_law_stands, g_law_stands := g_law_stands, a_law := _, fd_law := _, F_law := F_law, b_law := b_law, g_law := g_law, gC_Grove := PySem.W.mg_of X G ya_Grove, cl_Grove := ⟨yb_Grove, yc_Grove, yd_Grove, ye_Grove⟩, na_Grove_places := yn_Grove_places, na_Grove_one_way := yn_Grove_one_way, na_Grove_given := yn_Grove_given, na_Grove_standing := yn_Grove_standing, na_Grove_before := yn_Grove_before, na_Grove_undone := yn_Grove_undone, ds_m_Grove_init := ds_m_Grove_init, v_m_Grove_init := v_m_Grove_init, bd_m_Grove_init := bd_m_Grove_init, a_m_Grove_init := _, fd_m_Grove_init := _, F_m_Grove_init := F_m_Grove_init, b_m_Grove_init := b_m_Grove_init, M_m_Grove_init := ⟨yf_Grove, yi_m_Grove_init, yj_m_Grove_init, yg_Grove⟩, a_m_Grove_put := _, fd_m_Grove_put := _, F_m_Grove_put := F_m_Grove_put, b_m_Grove_put := b_m_Grove_put, M_m_Grove_put := ⟨yi_m_Grove_put, yj_m_Grove_put, yk_m_Grove_put⟩, a_m_Grove_take := _, fd_m_Grove_take := _, F_m_Grove_take := F_m_Grove_take, b_m_Grove_take := b_m_Grove_take, M_m_Grove_take := ⟨yi_m_Grove_take, yj_m_Grove_take, yk_m_Grove_take⟩, a_m_Grove_strengthen := _, fd_m_Grove_strengthen := _, F_m_Grove_strengthen := F_m_Grove_strengthen, b_m_Grove_strengthen := b_m_Grove_strengthen, M_m_Grove_strengthen := ⟨yi_m_Grove_strengthen, yj_m_Grove_strengthen, yk_m_Grove_strengthen⟩, a_m_Grove_become := _, fd_m_Grove_become := _, F_m_Grove_become := F_m_Grove_become, b_m_Grove_become := b_m_Grove_become, M_m_Grove_become := ⟨yi_m_Grove_become, yj_m_Grove_become, yk_m_Grove_become⟩, a_m_Grove_back := _, fd_m_Grove_back := _, F_m_Grove_back := F_m_Grove_back, b_m_Grove_back := b_m_Grove_back, M_m_Grove_back := ⟨yi_m_Grove_back, yj_m_Grove_back, yk_m_Grove_back⟩, a_m_Grove_again := _, fd_m_Grove_again := _, F_m_Grove_again := F_m_Grove_again, b_m_Grove_again := b_m_Grove_again, M_m_Grove_again := ⟨yi_m_Grove_again, yj_m_Grove_again, yk_m_Grove_again⟩, a_m_Grove_ties := _, fd_m_Grove_ties := _, F_m_Grove_ties := F_m_Grove_ties, b_m_Grove_ties := b_m_Grove_ties, M_m_Grove_ties := ⟨yi_m_Grove_ties, yj_m_Grove_ties, yk_m_Grove_ties⟩, a_m_Grove_laid_out := _, fd_m_Grove_laid_out := _, F_m_Grove_laid_out := F_m_Grove_laid_out, b_m_Grove_laid_out := b_m_Grove_laid_out, M_m_Grove_laid_out := ⟨yi_m_Grove_laid_out, yj_m_Grove_laid_out, yk_m_Grove_laid_out⟩, a_m_Grove_numbers := _, fd_m_Grove_numbers := _, F_m_Grove_numbers := F_m_Grove_numbers, b_m_Grove_numbers := b_m_Grove_numbers, M_m_Grove_numbers := ⟨yi_m_Grove_numbers, yj_m_Grove_numbers, yk_m_Grove_numbers⟩, a_m_Grove_spot_of := _, fd_m_Grove_spot_of := _, F_m_Grove_spot_of := F_m_Grove_spot_of, b_m_Grove_spot_of := b_m_Grove_spot_of, M_m_Grove_spot_of := ⟨yi_m_Grove_spot_of, yj_m_Grove_spot_of, yk_m_Grove_spot_of⟩, c_m_Grove_laid_out := c_m_Grove_laid_out, T_m_Grove_laid_out := T_m_Grove_laid_out, h_m_Grove_laid_out := rfl, t_m_Grove_laid_out := ⟨by simp, Lm_Grove_laid_out⟩, B_m_Grove_laid_out := hTB (c_m_Grove_laid_out, T_m_Grove_laid_out) (by simp), m_abs := m_abs, m_bool := m_bool, m_divmod := m_divmod, m_int := m_int, m_isinstance := m_isinstance, m_len := m_len, m_list := m_list, m_max := m_max, m_min := m_min, m_range := m_range, m_repr := m_repr, m_sorted := m_sorted, m_tuple := m_tuple, c_MOST_LANES := c_MOST_LANES, c_MOST_PLACES := c_MOST_PLACES, c_MOST_TIES := c_MOST_TIES }
    exact ok_law Q
end VL
open PySem PySem.W PyProof.Rows
theorem auxL (p : Prop) (h : PySem.Challenge.rw_treesapart_k81_numbers_kept.Holds) : (p ∧ True) = p := and_true p
set_option maxHeartbeats 0 in
theorem auxC : (0 = 0 ∧ True) := by
  simp (discharger := (w_on; o_law; k_head)) only [auxL, and_true]
set_option maxHeartbeats 0 in
theorem PySem.Challenge.cw_treesapart_k81_numbers_kept_holds : PySem.Challenge.rw_treesapart_k81_numbers_kept.Holds := by
  w_on; o_law; o_head (PySem.W.kmHook auxC.heap_39 [2, 3, 15, 17, 18, 20, 21, 22, 29, 30, 31, 32, 35, 42, 43, 44, 47, 54, 55, 56, 59, 66, 67, 68, 71, 78, 79, 80, 83, 90, 91, 92, 95, 102, 103, 104, 107, 109, 110, 112, 113, 114, 116, 117, 119, 120, 121, 123, 124, 126, 127, 128, 130, 131, 133, 134, 135, 137, 138, 140, 141, 142, 144, 145, 147, 148, 149, 151, 152, 154, 155, 163, 164, 166, 167, 169, 170, 171, 173, 174, 176, 177, 178, 180, 181, 183, 184, 185, 187, 188, 190, 191, 192, 194, 195, 197, 198, 199, 201, 202, 204, 205, 206, 208, 209, 211, 212, 213, 215, 216, 218, 219, 220, 221, 223, 224, 226, 227, 228, 229, 231, 232, 234, 235, 236, 237, 239, 240, 242, 243, 244, 246, 247, 249, 250, 251, 254, 255, 256, 259, 260, 261, 263, 264, 266, 267, 268, 269, 270, 271, 272, 275, 277, 278, 280, 281, 282, 284, 285, 287, 288, 289, 291, 292, 294, 295, 296, 298, 299, 301, 302, 303, 305, 306, 308, 309, 310, 312, 313, 315, 316, 317, 319, 320, 322, 323, 324, 326, 327, 329, 330, 331, 333, 334, 336, 337, 338, 340, 341, 343, 344, 345, 347, 348, 350, 351, 352, 355, 356, 357, 359, 360, 362, 363, 364, 366, 367, 369, 370, 371, 373, 374, 376, 377] (fun _ => by kernel_rfl) [245]); (case hw => w_witness2)
  k_fill
  refine TA.walkGTM (l := PySem.Challenge.rw_treesapart_k81_numbers_kept) (n := 63) (k := 8) (x := "_law_script") rfl (by decide) rfl ⟨rfl, by decide, by decide⟩ ?F
  case F =>
    intro w mg fa h KX G hmg
    refine' VL.all_mk KX G hmg ?ais_whole ?lis_whole ?cis_whole ?kis_whole ?ais_place ?lis_place ?cis_place ?kis_place ?arefuse_size ?lrefuse_size ?crefuse_size ?krefuse_size ?ais_amount ?lis_amount ?cis_amount ?kis_amount ?arefuse_strength ?lrefuse_strength ?crefuse_strength ?krefuse_strength ?arefuse_place ?lrefuse_place ?crefuse_place ?krefuse_place ?arefuse_two_places ?lrefuse_two_places ?crefuse_two_places ?krefuse_two_places ?alaw_nth ?llaw_nth ?claw_nth ?klaw_nth ?alaw_pot ?llaw_pot ?claw_pot ?klaw_pot ?alaw_take ?llaw_take ?claw_take ?klaw_take ?alaw_strength ?llaw_strength ?claw_strength ?klaw_strength ?alaw_begun ?llaw_begun ?claw_begun ?klaw_begun ?alaw_settle ?llaw_settle ?claw_settle ?klaw_settle ?alaw_did ?llaw_did ?claw_did ?klaw_did ?alaw_put ?llaw_put ?claw_put ?klaw_put ?alaw_gone_back ?llaw_gone_back ?claw_gone_back ?klaw_gone_back ?alaw_gone_on ?llaw_gone_on ?claw_gone_on ?klaw_gone_on ?alaw_deed ?llaw_deed ?claw_deed ?klaw_deed ?alaw_ties ?llaw_ties ?claw_ties ?klaw_ties ?alaw_made ?llaw_made ?claw_made ?klaw_made ?alaw_stands ?llaw_stands ?claw_stands ?klaw_stands ?alaw ?llaw ?claw ?klaw ?ya_Grove ?yb_Grove ?yc_Grove ?yd_Grove ?ye_Grove ?yf_Grove ?yg_Grove ?yn_Grove_places ?yn_Grove_one_way ?yn_Grove_given ?yn_Grove_standing ?yn_Grove_before ?yn_Grove_undone ?yi_m_Grove_init ?yl_m_Grove_init ?yT_m_Grove_init ?yV_m_Grove_init ?yh_m_Grove_init ?yk_m_Grove_init ?yj_m_Grove_init ?yi_m_Grove_put ?yl_m_Grove_put ?yh_m_Grove_put ?yk_m_Grove_put ?yj_m_Grove_put ?yi_m_Grove_take ?yl_m_Grove_take ?yh_m_Grove_take ?yk_m_Grove_take ?yj_m_Grove_take ?yi_m_Grove_strengthen ?yl_m_Grove_strengthen ?yh_m_Grove_strengthen ?yk_m_Grove_strengthen ?yj_m_Grove_strengthen ?yi_m_Grove_become ?yl_m_Grove_become ?yh_m_Grove_become ?yk_m_Grove_become ?yj_m_Grove_become ?yi_m_Grove_back ?yl_m_Grove_back ?yh_m_Grove_back ?yk_m_Grove_back ?yj_m_Grove_back ?yi_m_Grove_again ?yl_m_Grove_again ?yh_m_Grove_again ?yk_m_Grove_again ?yj_m_Grove_again ?yi_m_Grove_ties ?yl_m_Grove_ties ?yh_m_Grove_ties ?yk_m_Grove_ties ?yj_m_Grove_ties ?yi_m_Grove_laid_out ?yl_m_Grove_laid_out ?tm_Grove_laid_out ?im_Grove_laid_out ?nm_Grove_laid_out ?Lm_Grove_laid_out ?yh_m_Grove_laid_out ?yk_m_Grove_laid_out ?yj_m_Grove_laid_out ?yi_m_Grove_numbers ?yl_m_Grove_numbers ?yh_m_Grove_numbers ?yk_m_Grove_numbers ?yj_m_Grove_numbers ?yi_m_Grove_spot_of ?yl_m_Grove_spot_of ?yh_m_Grove_spot_of ?yk_m_Grove_spot_of ?yj_m_Grove_spot_of ?hhm_Grove_laid_out ?hmm_Grove_laid_out ?z0 ?z1 ?z2 ?z3 ?z4 ?z5 ?z6 ?z7 ?z8 ?z9 ?z10 ?z11 ?z12 ?wMOST_LANES ?wMOST_PLACES ?wMOST_TIES
    (case ais_whole => k_is); (case lis_whole => k_is); (case cis_whole => k_is); (case kis_whole => k_is); (case ais_place => k_is); (case lis_place => k_is); (case cis_place => k_is); (case kis_place => k_is); (case arefuse_size => k_is); (case lrefuse_size => k_is); (case crefuse_size => k_is); (case krefuse_size => k_is); (case ais_amount => k_is); (case lis_amount => k_is); (case cis_amount => k_is); (case kis_amount => k_is); (case arefuse_strength => k_is); (case lrefuse_strength => k_is); (case crefuse_strength => k_is); (case krefuse_strength => k_is); (case arefuse_place => k_is); (case lrefuse_place => k_is); (case crefuse_place => k_is); (case krefuse_place => k_is); (case arefuse_two_places => k_is); (case lrefuse_two_places => k_is); (case crefuse_two_places => k_is); (case krefuse_two_places => k_is); (case alaw_nth => k_is); (case llaw_nth => k_is); (case claw_nth => k_is); (case klaw_nth => k_is); (case alaw_pot => k_is); (case llaw_pot => k_is); (case claw_pot => k_is); (case klaw_pot => k_is); (case alaw_take => k_is); (case llaw_take => k_is); (case claw_take => k_is); (case klaw_take => k_is); (case alaw_strength => k_is); (case llaw_strength => k_is); (case claw_strength => k_is); (case klaw_strength => k_is); (case alaw_begun => k_is); (case llaw_begun => k_is); (case claw_begun => k_is); (case klaw_begun => k_is); (case alaw_settle => k_is); (case llaw_settle => k_is); (case claw_settle => k_is); (case klaw_settle => k_is); (case alaw_did => k_is); (case llaw_did => k_is); (case claw_did => k_is); (case klaw_did => k_is); (case alaw_put => k_is); (case llaw_put => k_is); (case claw_put => k_is); (case klaw_put => k_is); (case alaw_gone_back => k_is); (case llaw_gone_back => k_is); (case claw_gone_back => k_is); (case klaw_gone_back => k_is); (case alaw_gone_on => k_is); (case llaw_gone_on => k_is); (case claw_gone_on => k_is); (case klaw_gone_on => k_is); (case alaw_deed => k_is); (case llaw_deed => k_is); (case claw_deed => k_is); (case klaw_deed => k_is); (case alaw_ties => k_is); (case llaw_ties => k_is); (case claw_ties => k_is); (case klaw_ties => k_is); (case alaw_made => k_is); (case llaw_made => k_is); (case claw_made => k_is); (case klaw_made => k_is); (case alaw_stands => k_is); (case llaw_stands => k_is); (case claw_stands => k_is); (case klaw_stands => k_is); (case alaw => k_is); (case llaw => k_is); (case claw => k_is); (case klaw => k_is); (case ya_Grove => first | k_is | kernel_rfl | decide +kernel | exact rfl); (case yb_Grove => first | k_is | kernel_rfl | decide +kernel | exact rfl); (case yc_Grove => first | k_is | kernel_rfl | decide +kernel | exact rfl); (case yd_Grove => first | exact rfl | kernel_rfl | decide +kernel); (case ye_Grove => first | k_is | kernel_rfl | decide +kernel | exact rfl); (case yf_Grove => first | k_is | kernel_rfl | decide +kernel | exact rfl); (case yg_Grove => first | k_is | kernel_rfl | decide +kernel | exact rfl); (case yn_Grove_places => first | k_is | kernel_rfl | decide +kernel | exact rfl); (case yn_Grove_one_way => first | k_is | kernel_rfl | decide +kernel | exact rfl); (case yn_Grove_given => first | k_is | kernel_rfl | decide +kernel | exact rfl); (case yn_Grove_standing => first | k_is | kernel_rfl | decide +kernel | exact rfl); (case yn_Grove_before => first | k_is | kernel_rfl | decide +kernel | exact rfl); (case yn_Grove_undone => first | k_is | kernel_rfl | decide +kernel | exact rfl); (case yi_m_Grove_init => first | k_is | kernel_rfl | decide +kernel | exact rfl); (case yl_m_Grove_init => first | k_is | kernel_rfl | decide +kernel | exact rfl); (case yT_m_Grove_init => first | k_is | kernel_rfl | decide +kernel | exact rfl); (case yV_m_Grove_init => first | exact rfl | exact ⟨_, rfl⟩ | kernel_rfl); (case yh_m_Grove_init => first | k_is | kernel_rfl | decide +kernel | exact rfl); (case yk_m_Grove_init => first | k_is | kernel_rfl | decide +kernel | exact rfl); (case yj_m_Grove_init => first | k_is | kernel_rfl | decide +kernel | exact rfl); (case yi_m_Grove_put => first | k_is | kernel_rfl | decide +kernel | exact rfl); (case yl_m_Grove_put => first | k_is | kernel_rfl | decide +kernel | exact rfl); (case yh_m_Grove_put => first | k_is | kernel_rfl | decide +kernel | exact rfl); (case yk_m_Grove_put => first | k_is | kernel_rfl | decide +kernel | exact rfl); (case yj_m_Grove_put => first | k_is | kernel_rfl | decide +kernel | exact rfl); (case yi_m_Grove_take => first | k_is | kernel_rfl | decide +kernel | exact rfl); (case yl_m_Grove_take => first | k_is | kernel_rfl | decide +kernel | exact rfl); (case yh_m_Grove_take => first | k_is | kernel_rfl | decide +kernel | exact rfl); (case yk_m_Grove_take => first | k_is | kernel_rfl | decide +kernel | exact rfl); (case yj_m_Grove_take => first | k_is | kernel_rfl | decide +kernel | exact rfl); (case yi_m_Grove_strengthen => first | k_is | kernel_rfl | decide +kernel | exact rfl); (case yl_m_Grove_strengthen => first | k_is | kernel_rfl | decide +kernel | exact rfl); (case yh_m_Grove_strengthen => first | k_is | kernel_rfl | decide +kernel | exact rfl); (case yk_m_Grove_strengthen => first | k_is | kernel_rfl | decide +kernel | exact rfl); (case yj_m_Grove_strengthen => first | k_is | kernel_rfl | decide +kernel | exact rfl); (case yi_m_Grove_become => first | k_is | kernel_rfl | decide +kernel | exact rfl); (case yl_m_Grove_become => first | k_is | kernel_rfl | decide +kernel | exact rfl); (case yh_m_Grove_become => first | k_is | kernel_rfl | decide +kernel | exact rfl); (case yk_m_Grove_become => first | k_is | kernel_rfl | decide +kernel | exact rfl); (case yj_m_Grove_become => first | k_is | kernel_rfl | decide +kernel | exact rfl); (case yi_m_Grove_back => first | k_is | kernel_rfl | decide +kernel | exact rfl); (case yl_m_Grove_back => first | k_is | kernel_rfl | decide +kernel | exact rfl); (case yh_m_Grove_back => first | k_is | kernel_rfl | decide +kernel | exact rfl); (case yk_m_Grove_back => first | k_is | kernel_rfl | decide +kernel | exact rfl); (case yj_m_Grove_back => first | k_is | kernel_rfl | decide +kernel | exact rfl); (case yi_m_Grove_again => first | k_is | kernel_rfl | decide +kernel | exact rfl); (case yl_m_Grove_again => first | k_is | kernel_rfl | decide +kernel | exact rfl); (case yh_m_Grove_again => first | k_is | kernel_rfl | decide +kernel | exact rfl); (case yk_m_Grove_again => first | k_is | kernel_rfl | decide +kernel | exact rfl); (case yj_m_Grove_again => first | k_is | kernel_rfl | decide +kernel | exact rfl); (case yi_m_Grove_ties => first | k_is | kernel_rfl | decide +kernel | exact rfl); (case yl_m_Grove_ties => first | k_is | kernel_rfl | decide +kernel | exact rfl); (case yh_m_Grove_ties => first | k_is | kernel_rfl | decide +kernel | exact rfl); (case yk_m_Grove_ties => first | k_is | kernel_rfl | decide +kernel | exact rfl); (case yj_m_Grove_ties => first | k_is | kernel_rfl | decide +kernel | exact rfl); (case yi_m_Grove_laid_out => first | k_is | kernel_rfl | decide +kernel | exact rfl); (case yl_m_Grove_laid_out => first | k_is | kernel_rfl | decide +kernel | exact rfl); (case tm_Grove_laid_out => k_is); (case im_Grove_laid_out => first | exact rfl | kernel_rfl); (case nm_Grove_laid_out => first | exact rfl | kernel_rfl); (case Lm_Grove_laid_out => first | decide +kernel | exact rfl); (case yh_m_Grove_laid_out => first | k_is | kernel_rfl | decide +kernel | exact rfl); (case yk_m_Grove_laid_out => first | k_is | kernel_rfl | decide +kernel | exact rfl); (case yj_m_Grove_laid_out => first | k_is | kernel_rfl | decide +kernel | exact rfl); (case yi_m_Grove_numbers => first | k_is | kernel_rfl | decide +kernel | exact rfl); (case yl_m_Grove_numbers => first | k_is | kernel_rfl | decide +kernel | exact rfl); (case yh_m_Grove_numbers => first | k_is | kernel_rfl | decide +kernel | exact rfl); (case yk_m_Grove_numbers => first | k_is | kernel_rfl | decide +kernel | exact rfl); (case yj_m_Grove_numbers => first | k_is | kernel_rfl | decide +kernel | exact rfl); (case yi_m_Grove_spot_of => first | k_is | kernel_rfl | decide +kernel | exact rfl); (case yl_m_Grove_spot_of => first | k_is | kernel_rfl | decide +kernel | exact rfl); (case yh_m_Grove_spot_of => first | k_is | kernel_rfl | decide +kernel | exact rfl); (case yk_m_Grove_spot_of => first | k_is | kernel_rfl | decide +kernel | exact rfl); (case yj_m_Grove_spot_of => first | k_is | kernel_rfl | decide +kernel | exact rfl); (case hhm_Grove_laid_out => first | exact rfl | kernel_rfl); (case hmm_Grove_laid_out => first | decide | simp); (case z0 => k_is); (case z1 => k_is); (case z2 => k_is); (case z3 => k_is); (case z4 => k_is); (case z5 => k_is); (case z6 => k_is); (case z7 => k_is); (case z8 => k_is); (case z9 => k_is); (case z10 => k_is); (case z11 => k_is); (case z12 => k_is); (case wMOST_LANES => k_is); (case wMOST_PLACES => k_is); (case wMOST_TIES => k_is)

