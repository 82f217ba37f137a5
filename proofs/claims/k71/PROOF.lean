import PyProof.Rows.All
import Wide.All
import OpenK.AllK
import Wide.FinOn
import HandS.List
import HandS.Comp
import HandS.Ends
import HandS.Dict
import HandS.Iter
import HandS.Words
import PyProof.ReprRoads
import KE.SortData
import KE.DataMinMax
import HandS.GenList
import HandS.GenYield
import HandS.AnyAll
import HandS.JoinGen
import PyProof.TupleOfGen
import KE.GoesMore
import HandS.Style
import KE.KNest
import HandS.EndTab
import HandS.SetFor
import HandS.ForMost
import HandS.More
import HandS.Conv
import HandS.Deep
import HandS.Zip
import HandS.Strs
import HandS.NoneIn
import KE.KTupSum
import HandS.Flow
import KE.Datum
import HandS.IsInst
import PySem.Challenge.RW_treesapart_k71_spreads_judged
set_option Elab.async false
set_option linter.all false
set_option maxRecDepth 100000
set_option maxHeartbeats 2000000
/-! What HandS lacks for a law that writes things out: no repr is under way (guards). -/
namespace TA
open PySem PySem.Spec PyProof.Rows L2
/-- a def's promise, asked only where no repr is under way -/
structure FnG (P : Program) (w : World) (K : PySem.W.Frag) (mg : Str → Option Value) (b0 : Heap)
    (CX : CXT) (k : Nat) (f : Addr) (fd : FuncData) (ps : List Str) (sp : Sp) : Prop where
  len : ∀ vs H Q E, sp vs H Q E → vs.length = ps.length
  run : ∀ (B : Around) (ou : List Env) (s : Shared) (H : Hp) (ar : Args) (us : List Value) (vs : List V)
    (Q : VK) (E : XK), B.guards = some [] → Room k B → Env0 P w K mg b0 B ou s H →
    BindsTo s fd ar (ps.zip us) → Vals vs us → sp vs H Q E →
    codeAny (model P w) B (.call (.ref f) ar) (CR CX ou P w H s Q E) s
section
variable {P : Program} {w : World} {K : PySem.W.Frag} {mg : Str → Option Value} {b0 : Heap} {CX : CXT}
variable {k : Nat} {f : Addr} {fd : FuncData} {ps : List Str} {sp : Sp}
theorem FnG.of (F : FnOk P w K mg b0 CX k f fd ps sp) : FnG P w K mg b0 CX k f fd ps sp :=
  ⟨F.len, fun B ou s H ar us vs Q E _ => F.run B ou s H ar us vs Q E⟩
theorem FnG.mono {j : Nat} (F : FnG P w K mg b0 CX j f fd ps sp) (h : j ≤ k) : FnG P w K mg b0 CX k f fd ps sp :=
  ⟨F.len, fun B ou s H ar us vs Q E g hr => F.run B ou s H ar us vs Q E g (hr.mono h)⟩
end
section
variable {X : Cx} {CX : CXT} {k : Nat} {f : Addr} {fd : FuncData} {ps : List Str} {sp : Sp} {dvs : List V}
variable {ds : List Value} {E : XK} {x : Str} {p pos : Pos} {e : Expr} {es : List Expr} {t : TA}
theorem run_fnG {pins : List (Addr × Obj)} {σ : L2.St} {H : Hp} {s : Shared} {Q : VK} {us : List Value}
    {vs : List V} (F : FnG X.prog X.w X.K X.mg X.base CX k f fd ps sp) (hg : X.A.guards = some [])
    (hr : Room k X.A) (hb : Binds X.K fd ps ds) (hd : Vals dvs ds) (hx : Passes CX X E)
    (I : Inv X pins σ H s) (r : Vals vs us) (h : sp (vs ++ dvs) H Q E) :
    wpAny (model X.prog X.w) X.A (call (.ref f) us) (EP X pins σ Q) X.xe s := by
  have rr : Vals (vs ++ dvs) (us ++ ds) := r.append hd
  have hl : (us ++ ds).length = ps.length := rr.length ▸ F.len _ _ _ _ h
  have go := F.run X.A X.stack s H ⟨us, []⟩ (us ++ ds) (vs ++ dvs) Q E hg hr I.env0 (hb s us I.kIn hl) rr h
  refine wpAny_call (codeAny_mono go fun z s' hq => ?_)
  match z, hq with
  | .error e, hq => exact hx pins σ H s e s' I hq
  | .ok (.ret u), hq => exact I.after hq
  | .ok .next, hq => exact False.elim hq
  | .ok .brk, hq => exact False.elim hq
  | .ok .cont, hq => exact False.elim hq
theorem pe_callG (F : FnG X.prog X.w X.K X.mg X.base CX k f fd ps sp) (hg : X.A.guards = some [])
    (hr : Room k X.A) (hgl : Gl X x) (hm : X.mg x = some (.ref f)) (hk : PySem.W.keepIn X.K (.ref f) = true)
    (hb : Binds X.K fd ps ds) (hd : Vals dvs ds) (hx : Passes CX X E) (ha : PA X (e :: es) t)
    (hdb : (x == ("__debug__" : Str)) = false := by decide)
    (he : starEach (e :: es) X.env = (false, eval e X.env) :: starEach es X.env := by rfl)
    (hpl : (backTo pos (starEach es X.env)).any (·.1) = false := by rfl) :
    PE X (.Call (.Name x p) (e :: es) [] pos) (tCall sp dvs E t) := by
  refine ⟨fun pins s σ H Q I h => wpAny_Call_Name_kw (ld_glob I hgl hm ?_ hdb)⟩
  have ar := thn (ha.run pos pins s σ H _ I h) fun us s1 (⟨vs, H1, I1, r, q⟩ : AP X pins σ _ us s1) =>
    show s1.heap = s1.heap ∧ (X.K.In s1.heap ∧ wpAny (model X.prog X.w) X.A (call (.ref f) us) (EP X pins σ Q) X.xe s1) from
      ⟨rfl, I1.kIn, run_fnG F hg hr hb hd hx I1 r q⟩
  exact PySem.W.callWith_K (h₀ := X.base) I.ok.mod.kin hk (thn ar fun us s1 z => z.2) he hpl
end
/-! ### a def's body, where no repr is under way -/
section
variable {P : Program} {w : World} {K : PySem.W.Frag} {mg : Str → Option Value} {b0 : Heap} {CX : CXT}
theorem fnG_of {k : Nat} {f : Addr} {nm qu : Str} {pa : Arguments} {bd : List Stmt} {sc : Scope}
    {dV kV dc pm cd ct oc : Value} {an od : Option Addr} {sl : Array (Option Value)} {N ps : List Str} {sp : Sp}
    (lk : K.lookup f = some ⟨oc, od, .func (PySem.W.fnOf nm qu pa bd sc dV kV dc pm an cd ct), sl⟩)
    (hcd : PySem.W.codeIn K cd qu = true) (S : FnScope N ps sc)
    (len : ∀ vs H Q E, sp vs H Q E → vs.length = ps.length)
    (hb : ∀ (B : Around) (ou : List Env) (s : Shared) (H : Hp) (vs : List V) (Q : VK) (E : XK),
      B.guards = some [] → Room k (B.deeper (envOfC qu sc s.heap.objs.size f cd)) → sp vs H Q E →
      ∃ t, PSs (cxOf CX P w K mg b0 N qu sc f cd B ou s H E) bd t ∧
        t { nx := fun _ H' => Q .non H', rt := Q } (start N vs) H) :
    FnG P w K mg b0 CX (k + 1) f (PySem.W.fnOf nm qu pa bd sc dV kV dc pm an cd ct) ps sp := by
  refine ⟨len, fun B ou s H ar us vs Q E hg hr e0 hbn r hsp => ?_⟩
  have kIn : K.In s.heap := e0.mod.kin.keeps fun b o e => (e0.bs b o e).1
  have nol : s.heap.NoLimit := e0.mod.nolimit.keeps fun b o e => (e0.bs b o e).1
  refine codeAny_call_function hr.depth (kIn _ _ lk) rfl S.co S.gen rfl (PySem.W.codeRec_of kIn hcd) (hbn _ _ _ _ ?_)
  refine wpAny_newFunctionEnv_cells S.kind (fun y hy => ?_) fun env he s1 x => ?_
  · obtain ⟨n, v⟩ := y
    rcases S.par n (List.of_mem_zip hy).1 with q | q
    · exact .inl q
    · exact .inr ⟨q, PySem.W.cellsFrom_some _ _ _ (.inl q)⟩
  subst he
  refine ⟨nol.keeps x.toInCall.keep, codeAny_func ?_⟩
  obtain ⟨t, ht, hq⟩ := hb B ou s H vs Q E hg (hr.deeper _) hsp
  have I := inv_start (CX := CX) (E := E) S hr.hd e0 (len _ _ _ _ hsp) r x
  refine wpAny_mono (ht.run [] s1 (start N vs) H _ I hq) (fun fl s' hs => ?_) fun _ _ hs => hs
  match fl, hs with
  | .ret u, ⟨v, σ', H', J, rv, q⟩ => exact ⟨v, H', J.os, J.bare, J.base, J.hok, rv, q⟩
  | .next, ⟨σ', H', J, q⟩ => exact ⟨V.non, H', J.os, J.bare, J.base, J.hok, rfl, q⟩
  | .brk, ⟨_, _, _, q⟩ => exact False.elim q
  | .cont, ⟨_, _, _, q⟩ => exact False.elim q
theorem FunG.ok {x qu : Str} {st : Stmt} {f : Addr} {fd : FuncData} {N ps : List Str} {k : Nat} {sp : Sp}
    (F : Fun K x qu st f fd) (S : FnScope N ps (defScope st)) (len : ∀ vs H Q E, sp vs H Q E → vs.length = ps.length)
    (hb : ∀ (cd : Value) (B : Around) (ou : List Env) (s : Shared) (H : Hp) (vs : List V) (Q : VK) (E : XK),
      (B.deeper (envOfC qu (defScope st) s.heap.objs.size f cd)).guards = some [] →
      Room k (B.deeper (envOfC qu (defScope st) s.heap.objs.size f cd)) → sp vs H Q E →
      ∃ t, PSs (cxOf CX0 P w K mg b0 N qu (defScope st) f cd B ou s H E).nox (defBody st) t ∧
        t { nx := fun _ H' => Q .non H', rt := Q } (start N vs) H) :
    FnG P w K mg b0 CX0 (k + 1) f fd ps sp := by
  obtain ⟨oc, od, kV, dc, pm, an, cd, ct, sl, rfl, lk, hcd⟩ := F.ex
  refine fnG_of lk hcd S len fun B ou s H vs Q E hg hr hsp => ?_
  obtain ⟨t, h, q⟩ := hb cd B ou s H vs Q E hg hr hsp
  exact ⟨t, h.nox, q⟩
end
/-! ### the law's own call -/
theorem lawG {P : Program} {w : World} {K : PySem.W.Frag} {mg mb : Str → Option Value} {CX : CXT} {k : Nat}
    {fa a : Addr} {fd : FuncData} {x : Str} {sp : Sp} {z : Shared} {vs : List Value} {ns : List Int}
    (KX : K.In z.heap) (hns : z.heap.Ns mainGlobals mg) (hb : z.heap.Ns builtinsNs mb)
    (hbb : ∀ x : Str, x ≠ "__name__" → mb x = bootBuiltins x) (hlim : z.heap.NoLimit) (hg : z.gens = #[])
    (ha : z.heap.get? a = some { cls := .type "list", data := .seq vs.toArray }) (hi : IntsAre vs ns)
    (hl : ns.length ≤ sizeLine) (hr : Room k callerA)
    (F : ∀ b0 : Heap, K.In b0 → b0.Ns mainGlobals mg → FnG P w K mg b0 CX k fa fd [x] sp)
    (hbind : ∀ (s : Shared) (u : Value), BindsTo s fd ⟨[u], []⟩ [(x, u)])
    (hsp : ∀ H : Hp, Only H → SqL K H a (ns.map V.int) → sp [.ref a] H (fun v _ => v = .bl true) fun _ _ _ => False)
    (hCX : ∀ H e s', CX [] H z (fun _ _ _ => False) e s' → False) :
    codeAny (model P w) callerA (.call (.ref fa) ⟨[.ref a], []⟩)
      (fun r s' => r = .ok (.ret (.bool true)) ∧ OldK z.heap s'.heap ∧ s'.os = z.os ∧ AllBare s'.gens) z := by
  have rv := vals_ints hi
  have lenV := hi.length
  have core : ∀ H : Hp, Only H → SqL K H a (ns.map V.int) → HOk P w H z.heap → (∀ b, H b ≠ none → b = a) →
      (H a ≠ none → K.lookup a = none) → codeAny (model P w) callerA (.call (.ref fa) ⟨[.ref a], []⟩)
        (fun r s' => r = .ok (.ret (.bool true)) ∧ OldK z.heap s'.heap ∧ s'.os = z.os ∧ AllBare s'.gens) z := by
    intro H hO hS hok hA hK
    have notr : ∀ {b : Addr} {o : Obj} {es : Array DictEntry} {ep : Nat}, z.heap.get? b = some o →
        o.data = .dict es ep → H b = none := fun {b o es ep} e d => by
      cases q : H b with
      | none => rfl
      | some u =>
        obtain rfl : b = a := hA b (fun n => by rw [q] at n; cases n)
        rw [ha] at e
        cases e
        cases (show Data.seq vs.toArray _ = Data.dict es ep from d)
    have nsK : ∀ {b : Addr} {m : Str → Option Value}, z.heap.Ns b m → (hidT z.heap H).Ns b m :=
      fun {b m} ⟨o, es, ep, e, d, r⟩ => ⟨o, es, ep, hidT_get e (notr e d), d, r⟩
    have hKb : K.In (hidT z.heap H) := fun b o e => hidT_get (KX b o e) (by
      cases q : H b with
      | none => rfl
      | some u =>
        obtain rfl : b = a := hA b (fun n => by rw [q] at n; cases n)
        rw [hK (fun n => by rw [q] at n; cases n)] at e
        cases e)
    have hM : Mod K mg (hidT z.heap H) :=
      ⟨hKb, nsK hns, ⟨mb, nsK hb, hbb⟩, let ⟨mc, h1, h2⟩ := hlim; ⟨mc, nsK h1, h2⟩⟩
    have e0 : Env0 P w K mg (hidT z.heap H) callerA [] z H :=
      ⟨rfl, hM, fun b o e => of_hidT e, Nat.le_of_eq (hidT_size _ _), trivial,
        fun b h => absurd (show b ∈ ([] : List Addr) from h) (List.not_mem_nil), hok, .of_eq hg⟩
    refine codeAny_mono ((F _ hKb (nsK hns)).run callerA [] z H ⟨[.ref a], []⟩ [.ref a] [.ref a] _ _ rfl hr e0
      (hbind z (.ref a)) (.cons rfl .nil) (hsp H hO hS)) fun r s' h => ?_
    match r, h with
    | .error e, h => exact (hCX H e s' h).elim
    | .ok .next, h => exact False.elim h
    | .ok .brk, h => exact False.elim h
    | .ok .cont, h => exact False.elim h
    | .ok (.ret u), ⟨v, H', os, bare, un, hok', r', q⟩ =>
      have qv : v = .bl true := q
      subst qv
      obtain rfl : u = Value.bool true := r'
      refine ⟨rfl, OldK.of_keep fun b o e => ?_, os, bare⟩
      cases q : H b with
      | none => exact un.keep b o e q (fun m => absurd (show b ∈ ([] : List Addr) from m) List.not_mem_nil) (by simp)
      | some u =>
        rcases hO b with m | ⟨ob, xs, m⟩
        · rw [q] at m
          cases m
        · have e1 := (hok b _ m).1
          rw [e] at e1
          cases e1
          exact (hok' b _ (un.frzs b _ _ m)).1
  cases hk : K.lookup a with
  | some o =>
    have e := KX a o hk
    rw [ha] at e
    cases e
    exact core (fun _ => none) (fun _ => .inl rfl)
      (.inr ⟨_, vs.toArray, _, hk, rfl, rfl, rfl, by rw [List.size_toArray, lenV]; exact hl, by simpa using rv⟩)
      (fun b u m => by cases (show (none : Option HO) = some u from m)) (fun b m => absurd rfl m) fun m => absurd rfl m
  | none =>
    refine core (fun b => if b = a then some (.frz { cls := .type "list", data := .seq vs.toArray } (.lst (ns.map V.int))) else none)
      (fun b => ?_) (.inl (.inr ⟨{ cls := .type "list", data := .seq vs.toArray }, if_pos rfl⟩)) (fun b u m => ?_) (fun b m => ?_) fun _ => hk
    · by_cases h : b = a
      · exact .inr ⟨_, _, if_pos h⟩
      · exact .inl (if_neg h)
    · by_cases h : b = a
      · cases (if_pos h).symm.trans m
        subst h
        exact ⟨ha, by rw [List.length_map]; exact hl, vs, _, rv, ha⟩
      · cases (if_neg h).symm.trans m
    · by_cases h : b = a
      · exact h
      · exact absurd (if_neg h) m
theorem walkG {l : PySem.W.OpenLaw} {n k : Nat} {q : Program} {loose : List Str}
    {XP : (Str → Option Value) → Heap → Prop} {YP : World → Heap → Prop} {d : DefRec} {K : Params → PySem.W.Frag}
    {sp : World → Sp} {x : Str} (hn : l.most = some n) (hn2 : n ≤ sizeLine) (hdf : d.params.defaults = [])
    (hr : Room k callerA) (hY : ∀ (w : World) (h : Heap), YP w h → (K w.params).In h)
    (F : ∀ (w : World) (mg : Str → Option Value) (fa : Addr) (h : Heap), (K w.params).In h → h.Ns mainGlobals mg →
      mg d.name = some (.ref fa) → ∃ fd : FuncData, (∀ (s : Shared) (u : Value), BindsTo s fd ⟨[u], []⟩ [(x, u)]) ∧
        ∀ b0 : Heap, (K w.params).In b0 → b0.Ns mainGlobals mg → FnG l.prog w (K w.params) mg b0 CX0 k fa fd [x] (sp w))
    (hsp : ∀ (w : World) (H : Hp) (a : Addr) (ns : List Int), ns.length ≤ n → Only H →
      SqL (K w.params) H a (ns.map V.int) → sp w [.ref a] H (fun v _ => v = .bl true) fun _ _ _ => False) :
    PySem.W.WalkO q loose XP YP l.row.toRowW d [] (fun f vs => PySem.call f vs) := by
  refine Att.attach_call hn hdf fun w _ z mg mb fa o pm cd dc a vs ns G Y _ _ _ hmg ho hi hlen hg => ?_
  obtain ⟨fd, hb, hF⟩ := F w mg fa _ (hY w _ Y) G.T.g hmg
  exact lawG (hY w _ Y) G.T.g G.T.b G.T.builtins G.T.nolimit hg ho hi (Nat.le_trans hlen hn2) hr hF hb
    (fun H hO hS => hsp w H a ns hlen hO hS) fun _ _ _ m => m
/-! ### repr of data at any depth -/
/-- a list or a tuple that can be written out -/
structure Shows (d : PyData) : Prop where
  disp : isDisplay d = true
  show_ : d.showable = true
  nodict : d.hasDict = false
  deep : d.depth ≤ 30
  size : d.shown.length ≤ sizeLine
section
variable {X : Cx}
theorem call_reprD (hg : X.A.guards = some []) (hu : X.A.units + 64 < cLine) :
    CallR X (.builtin "repr") (fun xs H Q => ∃ x d, xs = [x] ∧ Dp X.K H x d ∧ Shows d ∧ Q (.str d.shown) H) := by
  intro pins s σ H xs us Q I r h
  obtain ⟨x, d, rfl, hd, S, q⟩ := h
  obtain ⟨u, rfl, ru⟩ := vals1 r
  obtain ⟨as, rd⟩ := Dp.reads I d x u hd ru
  obtain ⟨a, rfl⟩ := isRef_of_reads rd S.disp
  have hdp := S.deep
  refine repr_of_reads' rd S.show_ (PyData.noDict_hsm S.nodict) hg (by omega) (fun _ _ e => e) (fun h' t tk hk => ?_) S.size
  exact ⟨.str _, H, I.kept hk, ⟨_, rfl⟩, q⟩
end
end TA
set_option maxHeartbeats 2000000
namespace TA
open PySem PySem.Spec PyProof.Rows L2
/-! ### sorted of a list of rows of ints -/
theorem each_vals {β : Type} {g : β → V} : ∀ {bs : List β} {us : List Value}, Vals (bs.map g) us → PySem.W.EachIs (fun u b => RelV (g b) u) us bs
  | [], _, r => by
    cases r
    exact .nil
  | b :: bs, _, r => by
    cases (show Vals (g b :: bs.map g) _ from r) with
    | cons r1 r2 => exact .cons r1 (each_vals r2)
theorem vals_each {β : Type} {g : β → V} : ∀ {bs : List β} {us : List Value}, PySem.W.EachIs (fun u b => RelV (g b) u) us bs → Vals (bs.map g) us
  | _, _, .nil => .nil
  | _, _, .cons h t => .cons h (vals_each t)
/-- x before y, as rows -/
abbrev rowLe {β : Type} (k : β → List Int) : β → β → Bool := fun p q => decide (k p ≤ k q)
def rSortR (K : PySem.W.Frag) : List V → Hp → VK → Prop := fun vs H Q => ∃ (a : Addr) (bs : List (V × List Int)),
  vs = [V.ref a] ∧ SqL K H a (bs.map (·.1)) ∧ (∀ b ∈ bs, ∃ c, b.1 = .ref c ∧ SqL K H c (b.2.map V.int)) ∧
  ∀ p, H p = none → Q (.ref p) (upd H p (.lst ((bs.mergeSort (rowLe (·.2))).map (·.1))))
theorem dpAll_ints (K : PySem.W.Frag) (H : Hp) : ∀ ns : List Int, DpAll K H (ns.map V.int) (ns.map PyData.int)
  | [] => .nil
  | n :: ns => .cons (.int n) (dpAll_ints K H ns)
theorem cr_sortR {X : Cx} (hu : X.A.units + 64 < cLine) : CallR X (.builtin "sorted") (rSortR X.K) := by
  intro pins s σ H vs us Q I r h
  obtain ⟨a, bs, rfl, hs, hx, q⟩ := h
  obtain ⟨its, rv, hl, hz⟩ := I.list hs
  obtain ⟨u, rfl, ru⟩ := vals1 r
  obtain rfl : u = Value.ref a := ru
  have e := each_vals (g := fun b : V × List Int => b.1) rv
  have er : PySem.W.EachIs (fun v (b : V × List Int) => ∃ as, Reads s.heap v (.list (b.2.map .int)) as) its bs :=
    (PySem.W.each_mem e).mono fun v b hb => by
      obtain ⟨rb, mb⟩ := hb
      obtain ⟨c, e1, sq⟩ := hx b mb
      exact Dp.reads I _ b.1 v (by rw [e1]; exact .lst sq (dpAll_ints _ _ _)) rb
  have hbl : bs.length = its.length := by
    have z := rv.length
    rw [List.length_map] at z
    exact z
  refine PySem.W.sorted_data (enc := fun b : V × List Int => .list (b.2.map .int)) (R := fun u (b : V × List Int) => RelV b.1 u)
    hl.isList e er (PySem.W.AllAlike.of fun b b' => ?_) (PySem.W.Sortable.others fun b => ⟨(by intro z; cases z), fun _ => (by intro z; cases z)⟩)
    (by rw [hbl, ← rv.length]; exact hz) (fun b _ => ?_) fun out hlen eo => ?_
  · show PySem.W.alike _ _ = true
    simp only [PySem.W.alike]
    exact PySem.W.alike_ints _ _
  · have hd : (PyData.list (b.2.map .int)).depth = 1 + PyData.depthAll (b.2.map .int) := by simp only [PyData.depth]; omega
    rw [hd, PySem.W.depth_ints]
    omega
  · rw [PySem.W.dataLe_rows (fun b : V × List Int => b.2)] at eo
    have rr := vals_each (g := fun b : V × List Int => b.1) eo
    have hd : s.heap.objs.size ≤ s.heap.objs.size + 1 := Nat.le_succ _
    obtain ⟨n, hn⟩ := sortedAll_at s.heap its out.toArray
    refine ⟨.ref (s.heap.objs.size + 1), upd H (s.heap.objs.size + 1) (.lst ((bs.mergeSort (rowLe (·.2))).map (·.1))), I.laid (t' := s.toks) (fun b o e => sortedAll_old e) hd ⟨?_, out, n, rr, hn⟩, rfl, q _ (I.hok.fresh hd)⟩
    rw [List.length_map, List.length_mergeSort, hbl, ← rv.length]
    exact hz
/-! ### min and max of a tuple of ints -/
theorem alikeAll_int (ns : List Int) : PySem.W.AlikeAll (ns.map PyData.int) := by
  refine ⟨fun x hx y hy => ?_, fun x hx => ?_⟩
  · obtain ⟨a, _, rfl⟩ := List.mem_map.mp hx
    obtain ⟨b, _, rfl⟩ := List.mem_map.mp hy
    simp [PySem.W.alike]
  · obtain ⟨a, _, rfl⟩ := List.mem_map.mp hx
    intro z
    cases z
theorem reads_int {h : Heap} {v : Value} {n : Int} {as : List Addr} (r : Reads h v (.int n) as) : RelV (.int n) v := by
  cases r with
  | int _ t => exact ⟨t, rfl⟩
def rMinT (K : PySem.W.Frag) : List V → Hp → VK → Prop := fun vs H Q => ∃ (a : Addr) (n : Int) (ns : List Int), vs = [.ref a] ∧ SqT K H a ((n :: ns).map V.int) ∧ Q (.int (ns.foldl min n)) H
def rMaxT (K : PySem.W.Frag) : List V → Hp → VK → Prop := fun vs H Q => ∃ (a : Addr) (n : Int) (ns : List Int), vs = [.ref a] ∧ SqT K H a ((n :: ns).map V.int) ∧ Q (.int (ns.foldl max n)) H
section
variable {X : Cx}
theorem call_minT (hc : X.calm = true) (hu : X.A.units + 64 < cLine) : CallR X (.builtin "min") (rMinT X.K) := by
  intro pins s σ H vs us Q I r h
  obtain ⟨a, n, ns, rfl, hs, q⟩ := h
  obtain ⟨its, rv, ht, _⟩ := I.tuple hs
  rw [Vals.ref1 r]
  obtain ⟨as, rd⟩ := Dp.readsAll I _ _ its (dpAll_ints X.K H (n :: ns)) rv
  refine PySem.W.min_tuple_data (I.ok.hd hc) ht rd (alikeAll_int (n :: ns)) ?_ fun i v h' tk bs _ r' hk => ?_
  · rw [show (PyData.int n :: ns.map PyData.int) = (n :: ns).map PyData.int from rfl, PySem.W.depth_ints]
    omega
  · rw [PySem.W.minD_ints] at r'
    exact ⟨.int _, H, I.kept hk, reads_int r', q⟩
theorem call_maxT (hc : X.calm = true) (hu : X.A.units + 64 < cLine) : CallR X (.builtin "max") (rMaxT X.K) := by
  intro pins s σ H vs us Q I r h
  obtain ⟨a, n, ns, rfl, hs, q⟩ := h
  obtain ⟨its, rv, ht, _⟩ := I.tuple hs
  rw [Vals.ref1 r]
  obtain ⟨as, rd⟩ := Dp.readsAll I _ _ its (dpAll_ints X.K H (n :: ns)) rv
  refine PySem.W.max_tuple_data (I.ok.hd hc) ht rd (alikeAll_int (n :: ns)) ?_ fun i v h' tk bs _ r' hk => ?_
  · rw [show (PyData.int n :: ns.map PyData.int) = (n :: ns).map PyData.int from rfl, PySem.W.depth_ints]
    omega
  · rw [PySem.W.maxD_ints] at r'
    exact ⟨.int _, H, I.kept hk, reads_int r', q⟩
end
end TA
set_option maxHeartbeats 2000000
namespace TA
open PySem PySem.Spec PyProof.Rows L2
/-! ### data that can be written out, and compared -/
structure Fit (d : PyData) (w dp : Nat) : Prop where
  show_ : d.showable = true
  nodict : d.hasDict = false
  short : d.leavesShort 100 = true
  lay : d.canLay0 = true
  wt : d.weight ≤ w
  dpt : d.depth ≤ dp
structure FitAll (ds : List PyData) (w dp : Nat) : Prop where
  show_ : PyData.showableAll ds = true
  nodict : PyData.hasDictAll ds = false
  short : PyData.leavesShortAll 100 ds = true
  lay : PyData.canLayAll0 ds = true
  wt : PyData.weightAll ds ≤ w
  dpt : PyData.depthAll ds ≤ dp
theorem Fit.up {d : PyData} {w w' dp dp' : Nat} (h : Fit d w dp) (hw : w ≤ w') (hd : dp ≤ dp') : Fit d w' dp' := ⟨h.show_, h.nodict, h.short, h.lay, Nat.le_trans h.wt hw, Nat.le_trans h.dpt hd⟩
theorem FitAll.up {d : List PyData} {w w' dp dp' : Nat} (h : FitAll d w dp) (hw : w ≤ w') (hd : dp ≤ dp') : FitAll d w' dp' := ⟨h.show_, h.nodict, h.short, h.lay, Nat.le_trans h.wt hw, Nat.le_trans h.dpt hd⟩
theorem log2_lt {n k : Nat} (hk : 0 < k) (h : n < 2 ^ k) : n.log2 < k := by
  by_cases z : n = 0
  · rw [z]
    simpa using hk
  · exact (Nat.log2_lt z).mpr h
theorem fit_int {i : Int} {k : Nat} (k0 : 0 < k) (hk : k ≤ 300) (h : i.natAbs < 2 ^ k) : Fit (.int i) k 0 := by
  have l := log2_lt k0 h
  refine ⟨?_, rfl, ?_, rfl, ?_, Nat.le_refl _⟩
  · simp only [PyData.showable, decide_eq_true_eq]
    omega
  · simp only [PyData.leavesShort, decide_eq_true_eq]
    have h2 : i.natAbs < 10 ^ 99 := Nat.lt_of_lt_of_le h (Nat.le_trans (Nat.pow_le_pow_right (by decide) hk) (by decide +kernel))
    have e := int_text_length_le10 (k := 99) (by decide) h2
    show (Str.ofString (toString i)).length ≤ 100
    rw [PySem.ofString_length]
    exact e
  · simp only [PyData.weight]
    split <;> omega
theorem fit_none : Fit .none 0 0 := ⟨rfl, rfl, rfl, rfl, Nat.le_refl _, Nat.le_refl _⟩
theorem fit_bool (b : Bool) : Fit (.bool b) 0 0 := ⟨rfl, rfl, rfl, rfl, Nat.le_refl _, Nat.le_refl _⟩
theorem fit_nil : FitAll [] 0 0 := ⟨rfl, rfl, rfl, rfl, Nat.le_refl _, Nat.le_refl _⟩
theorem fit_cons {d : PyData} {ds : List PyData} {w w' dp : Nat} (h : Fit d w dp) (t : FitAll ds w' dp) : FitAll (d :: ds) (w + 1 + w') dp := by
  refine ⟨?_, ?_, ?_, ?_, ?_, ?_⟩
  · simp only [PyData.showableAll, h.show_, t.show_, Bool.and_self]
  · simp only [PyData.hasDictAll, h.nodict, t.nodict, Bool.or_self]
  · simp only [PyData.leavesShortAll, h.short, t.short, Bool.and_self]
  · simp only [PyData.canLayAll0, h.lay, t.lay, Bool.and_self]
  · have h1 := h.wt
    have h2 := t.wt
    simp only [PyData.weightAll]
    omega
  · have h1 := h.dpt
    have h2 := t.dpt
    simp only [PyData.depthAll]
    omega
theorem fit_list {ds : List PyData} {w dp : Nat} (h : FitAll ds w dp) : Fit (.list ds) w (dp + 1) := by
  have h1 := h.dpt
  refine ⟨by simpa only [PyData.showable] using h.show_, by simpa only [PyData.hasDict] using h.nodict, by simpa only [PyData.leavesShort] using h.short, by simpa only [PyData.canLay0] using h.lay, by simpa only [PyData.weight] using h.wt, ?_⟩
  simp only [PyData.depth]
  omega
theorem fit_tuple {ds : List PyData} {w dp : Nat} (h : FitAll ds w dp) : Fit (.tuple ds) w (dp + 1) := by
  have h1 := h.dpt
  refine ⟨by simpa only [PyData.showable] using h.show_, by simpa only [PyData.hasDict] using h.nodict, by simpa only [PyData.leavesShort] using h.short, by simpa only [PyData.canLay0] using h.lay, by simpa only [PyData.weight] using h.wt, ?_⟩
  simp only [PyData.depth]
  omega
theorem fit_map {α : Type} {g : α → PyData} {w dp : Nat} : ∀ {l : List α}, (∀ x ∈ l, Fit (g x) w dp) → FitAll (l.map g) ((w + 1) * l.length) dp
  | [], _ => (fit_nil).up (Nat.zero_le _) (Nat.zero_le _)
  | x :: l, h => by
    have t := fit_map (l := l) fun y hy => h y (List.mem_cons_of_mem _ hy)
    refine (fit_cons (h x List.mem_cons_self) t).up ?_ (Nat.le_refl _)
    rw [List.length_cons, Nat.mul_succ]
    omega
theorem Fit.shows {d : PyData} {w dp : Nat} (h : Fit d w dp) (hd : isDisplay d = true) (hw : w ≤ 160000) (hp : dp ≤ 30) : Shows d := by
  refine ⟨hd, h.show_, h.nodict, Nat.le_trans h.dpt hp, ?_⟩
  have h1 := PyData.shown_le 100 (by decide) d h.short
  have h2 := h.wt
  rw [sizeLine_eq]
  omega
theorem Fit.shaped {d : PyData} {w dp : Nat} (h : Fit d w dp) (hp : dp ≤ 64) : SeqAt.shaped d = true := by
  unfold SeqAt.shaped
  rw [h.lay, decide_eq_true (Nat.le_trans h.dpt hp)]
  rfl
/-! ### rows of ints as data -/
abbrev rowD (ns : List Int) : PyData := .list (ns.map .int)
theorem eqv_int (a b : Int) : PyData.eqv (.int a) (.int b) = decide (a = b) := by
  simp only [PyData.eqv]
  by_cases h : a = b
  · rw [h]; simp
  · rw [decide_eq_false h]; simpa using h
theorem eqvAll_int : ∀ xs ys : List Int, PyData.eqvAll (xs.map .int) (ys.map .int) = decide (xs = ys)
  | [], [] => by simp [PyData.eqvAll]
  | [], _ :: _ => by simp [PyData.eqvAll]
  | _ :: _, [] => by simp [PyData.eqvAll]
  | x :: xs, y :: ys => by
    show PyData.eqvAll (.int x :: xs.map .int) (.int y :: ys.map .int) = _
    rw [PyData.eqvAll, eqvAll_int xs ys, eqv_int]
    by_cases h : x = y
    · subst h
      simp
    · rw [decide_eq_false h, decide_eq_false (fun e => h (List.cons.inj e).1)]
      rfl
theorem eqv_row (xs ys : List Int) : PyData.eqv (rowD xs) (rowD ys) = decide (xs = ys) := by
  simp only [PyData.eqv]
  exact eqvAll_int xs ys
end TA
set_option maxHeartbeats 2000000
/-! Generator expressions over the layer: the element is any expression of the block. -/
namespace TA
open PySem PySem.Spec PyProof.Rows L2
theorem over_gx {A : Around} {elt : Expr} {gens : List Comprehension} {scope : Scope} {pos : Pos} {it acc : Value} {cenv : Env} :
    A.over (.compLoop (.GeneratorExp elt gens scope pos) 0 it acc cenv) [] = A.deeper cenv := by
  first
    | rfl
    | (obtain ⟨hd, d, fr, gs, u⟩ := A; simp [Around.over, Around.deeper, marksOver, frameCount, unitsOf, envsOf, guardsOf, pushEnvs, pushGuards, Code.envs, Code.env?, Code.isFrame, Code.guards, Code.isGuard, Code.weight, Code.frames, Code.isCreation, Code.isCaller, Code.cUnits])
theorem over_gs {A : Around} {elt : Expr} {gens : List Comprehension} {scope : Scope} {pos : Pos} {it acc : Value} {cenv : Env} :
    A.over (.compStart (.GeneratorExp elt gens scope pos) 0 it acc cenv) [] = A.deeper cenv := by
  first
    | rfl
    | (obtain ⟨hd, d, fr, gs, u⟩ := A; simp [Around.over, Around.deeper, marksOver, frameCount, unitsOf, envsOf, guardsOf, pushEnvs, pushGuards, Code.envs, Code.env?, Code.isFrame, Code.guards, Code.isGuard, Code.weight, Code.frames, Code.isCreation, Code.isCaller, Code.cUnits])
/-- the scope of a generator expression within a def: its own names by slot, none of them a cell -/
structure GxOk (N : List Str) (sc scope : Scope) (own : List (Str × Nat)) : Prop where
  blk : BlkOk N sc scope own
  co : scope.isCoroutine = false
  cell : ∀ y ∈ scope.names, y.2 ≠ .cell
  dot : scope.names.lookup (".0" : Str) = some NameKind.local
def gxC (N : List Str) (sc scope : Scope) (own : List (Str × Nat)) : Bool :=
  blkC N sc scope own && !scope.isCoroutine && scope.names.all (fun y => !(y.2 == .cell)) && (scope.names.lookup (".0" : Str) == some NameKind.local)
theorem gxOk_by {N : List Str} {sc scope : Scope} {own : List (Str × Nat)} (h : gxC N sc scope own = true) : GxOk N sc scope own := by
  unfold gxC at h
  simp only [Bool.and_eq_true, List.all_eq_true, Bool.not_eq_true', beq_iff_eq] at h
  obtain ⟨⟨⟨h1, h2⟩, h3⟩, h4⟩ := h
  refine ⟨blkOk_by h1, h2, fun y hy e => ?_, h4⟩
  have := h3 y hy
  rw [e] at this
  exact absurd this (by decide)
/-- the context of a generator's frame: it was made at s, its iterator's objects at fp; A: where it is woken -/
abbrev gxCx (X : Cx) (A : Around) (s : Shared) (H : Hp) (cenv : Env) (fp : List Addr) (pn : List (Addr × Obj)) : Cx :=
  { X with A := A.deeper cenv, s_0 := s, H_0 := H, env := cenv, outer := X.stack, stack := cenv :: X.stack, ex := fp, fn := fun _ => false, calm := true, pn := pn, xe := fun _ _ => False }
section
variable {X : Cx} {pins : List (Addr × Obj)} {σ : L2.St} {H : Hp} {s : Shared}
abbrev gxEnv (X : Cx) (scope : Scope) (C : Addr) (code : Value) : Env := genEnv scope (cloFrom X.env.cells scope.names []) C code builtinsNs X.env
theorem gx_start {scope : Scope} {own : List (Str × Nat)} {fp : List Addr} {A : Around} {code itv : Value} {s2 : Shared} {pn pw : List (Addr × Obj)} (I : Inv X pins σ H s) (ok : GxOk X.N X.env.scope scope own) (hN : X.N.Nodup) (hfp : ∀ b ∈ fp, FpOk X pins H b ∧ b < s.heap.objs.size)
    (hd : A.handled = none) (hfr : A.frames = some X.stack) (hos : s2.os = s.os) (hb : AllBare s2.gens) (hns : s2.heap.Ns s.heap.objs.size (fun y => if y = ".0" then some itv else none)) (kp : ∀ b o, s.heap.get? b = some o → s2.heap.get? b = some o)
    (hpn : ∀ p ∈ pn ++ pw, s2.heap.get? p.1 = some p.2 ∧ s.heap.objs.size < p.1 ∧ ∀ v, p.2.data ≠ .cell v) :
    Inv (gxCx X A s H (gxEnv X scope s.heap.objs.size code) fp pn) pw (wipe σ (own.map (·.2))) H s2 := by
  have hfree : ∀ y ∈ scope.names, y.2 = .free → ∃ c, X.env.cells.lookup y.1 = some c := fun y hy e => by
    rcases ok.blk.free y hy e with k | k
    · exact I.ok.has _ (.inl k)
    · exact I.ok.has _ (.inr k)
  have cm : ∀ {y c}, (y, c) ∈ cloFrom X.env.cells scope.names [] → X.env.cells.lookup y = some c ∧ c < s.heap.objs.size := fun {y c} hm => by
    rcases cloFrom_mem hm with hm | ⟨h1, rfl⟩
    · cases hm
    · obtain ⟨c, hc⟩ := hfree _ h1 rfl
      rw [hc]
      obtain ⟨w, z⟩ := I.cell _ _ hc
      exact ⟨rfl, z.lt⟩
  have mem : ∀ {y c}, (cloFrom X.env.cells scope.names []).lookup y = some c → X.env.cells.lookup y = some c ∧ c < s.heap.objs.size := fun {y c} e => cm (PySem.mem_of_lookup e)
  have look : ∀ {y}, scope.names.lookup y = some .free → ∃ c, (cloFrom X.env.cells scope.names []).lookup y = some c ∧ X.env.cells.lookup y = some c := fun {y} hl => by
    obtain ⟨c', e'⟩ := mem_lookup (cloFrom_has (cells := X.env.cells) (acc := []) (PySem.mem_of_lookup hl))
    exact ⟨c', e', (mem e').1⟩
  have okG : (gxCx X A s H (gxEnv X scope s.heap.objs.size code) fp pn).Ok := by
    refine ⟨I.ok.mod, ok.blk.kind, I.ok.glob, rfl, Nat.le_refl _, fun y z c e1 e2 => I.ok.inj y z c (mem e1).1 (mem e2).1, fun y hy => ?_, fun y c z e => (by cases z), fun _ => hd, Around.frames_deeper hfr, .inr ⟨rfl, rfl⟩,
      fun b hb => ⟨Nat.ne_of_lt (hfp b hb).2, fun y c e z => (hfp b hb).1.2.2.2.2.1 y c (mem e).1 z⟩, I.bs, Nat.le_trans I.ok.bsz I.sz, fun b o e hb => ?_, fun b hb z => ?_, I.stack, I.stkFree⟩
    · have key : ∀ k, scope.names.lookup y = some k → (k = .cell ∨ k = .free) → ∃ c, (cloFrom X.env.cells scope.names []).lookup y = some c := fun k hk hk' => by
        rcases hk' with rfl | rfl
        · exact absurd rfl (ok.cell _ (PySem.mem_of_lookup hk))
        · obtain ⟨c, h1, _⟩ := look hk
          exact ⟨c, h1⟩
      rcases hy with hy | hy
      · exact key _ hy (.inl rfl)
      · exact key _ hy (.inr rfl)
    · rcases (hfp b hb).1.2.2.2.1 with z | z
      · exact I.ok.noex b o e z
      · exact absurd (Nat.lt_of_lt_of_le (Heap.lt_size e) (Nat.le_trans I.ok.bsz z)) (Nat.lt_irrefl _)
    · rcases List.mem_cons.mp (I.stkSub b z) with z | z
      · exact (hfp b hb).1.2.1 z
      · exact (hfp b hb).1.2.2.1 z
  refine ⟨okG, hos, hb, Un.kept kp, ⟨_, hns, fun i y av e1 e2 e3 => ?_⟩, fun y c e => ?_, I.hok.fresh (Nat.le_refl _), fun y c e => I.freeC y c (mem e).1, fun p hp => ?_, I.hok.kept kp, by rw [wipe_length]; exact I.len⟩
  · obtain ⟨e2, hne⟩ := wipe_some e2
    have no : ∀ k, scope.names.lookup y = some k → ¬ (k = .local ∨ k = .cell) := fun k hk hh => by
      rcases ok.blk.own _ (PySem.mem_of_lookup hk) hh with e' | e'
      · obtain ⟨p, hp, hpy⟩ := List.mem_map.mp e'
        have e3 := ok.blk.ix p hp
        have : p.1 = y := hpy
        rw [this] at e3
        exact hne (List.mem_map.mpr ⟨p, hp, nodup_ix hN e3 e1⟩)
      · exact e' (List.mem_of_getElem? e1)
    have hfr : scope.names.lookup y = some .free := by
      have e3 : Vis scope y := e3
      rcases e3 with e3 | e3 | e3
      · exact absurd (.inl rfl) (no _ e3)
      · exact absurd (.inr rfl) (no _ e3)
      · exact e3
    obtain ⟨m, hn, hl⟩ := I.loc
    have hvis : Vis X.env.scope y := (ok.blk.free _ (PySem.mem_of_lookup hfr) rfl).elim (fun k => .inr (.inl k)) (fun k => .inr (.inr k))
    obtain ⟨w, r, q⟩ := hl i y av e1 e2 hvis
    refine ⟨w, r, .inr ⟨.inr hfr, ?_⟩⟩
    obtain ⟨c, h1, h2⟩ := look hfr
    rcases q with ⟨k, _⟩ | ⟨_, c', e', z⟩
    · have k : X.env.scope.names.lookup y = some .local := k
      rcases ok.blk.free _ (PySem.mem_of_lookup hfr) rfl with k' | k' <;> rw [show X.env.scope.names.lookup y = _ from k'] at k <;> cases k
    · rw [h2] at e'
      cases e'
      exact ⟨c, h1, z.keeps kp⟩
  · obtain ⟨w, z⟩ := I.cell y c (mem e).1
    exact ⟨w, z.keeps kp⟩
  · obtain ⟨h1, h2, h3⟩ := hpn p hp
    have hge : s.heap.objs.size ≤ p.1 := Nat.le_of_lt h2
    refine ⟨h1, I.hok.fresh hge, Nat.ne_of_gt h2, fun hm => ?_, h3⟩
    rcases List.mem_cons.mp (I.stkSub p.1 hm) with z | z
    · rw [z] at hge
      exact absurd (Nat.lt_of_lt_of_le I.lt hge) (Nat.lt_irrefl _)
    · exact I.nofs hge z
end
/-! ### the turns -/
/-- what is asked of each turn: W, the items so far -/
def GxTurn (J : It) (g : TG) (tt : TT) (te : TE) (vs : List Nat) (σw : L2.St) (W : Nat → Nat → List V → Hp → Prop) (Qc : List V → Hp → Prop) : Prop :=
  ∀ i m ys H, W i m ys H → (J.stop i H ∧ Qc ys H) ∨ (J.go i H ∧ ∃ Nx : List V → Hp → Prop, (∀ ys' H', Nx ys' H' → ∃ m', m' < m ∧ W (i + 1) m' ys' H') ∧
    ∀ x H', J.yld i H x H' → g x σw H' fun σ2 H2 => wipe σ2 vs = σw ∧ tt σ2 H2 fun b H3 => if b = true then te σ2 H3 fun y H4 => ys.length < sizeLine ∧ Nx (ys ++ [y]) H4 else Nx ys H3)
section
variable {Y : Cx} {A : Around} {elt tg iter : Expr} {ifs : List Expr} {scope : Scope} {gpos : Pos} {fp : List Addr} {it S a : Addr} {gn : Nat} {tn : Nat → Heap → Prop} {J : It} {g : TG} {tt : TT} {te : TE} {vs : List Nat} {σw : L2.St}
theorem gx_loop {W : Nat → Nat → List V → Hp → Prop} {Qc : List V → Hp → Prop} {E : XK} (hA : A.over (.compLoop (.GeneratorExp elt [⟨tg, iter, ifs, 0⟩] scope gpos) 0 (.ref it) .none Y.env) [] = Y.A) (hc : Y.calm = true) (hxe : Y.xe = fun _ _ => False)
    (hco : Y.env.scope.isCoroutine = false) (T : Turn Y.prog Y.w Y.K tg J fp it tn) (pg : PG Y tg g) (pt : PTs Y ifs tt) (pe : PE Y elt te) (apart : Apart Y S) (hpnS : ∀ p ∈ Y.pn, p.1 ≠ S) (hfpS : ∀ b ∈ fp, b ≠ S) (hex : ∀ b ∈ fp, b ∈ Y.ex) (hpf : ∀ p ∈ Y.pn, ∀ b ∈ fp, p.1 ≠ b)
    (hgen : ∀ {pins : List (Addr × Obj)} {σ : L2.St} {H : Hp} {s : Shared}, Inv Y pins σ H s → s.heap.IsGen a gn) (turn : GxTurn J g tt te vs σw W Qc) :
    ∀ (m i : Nat) (ys : List V) (n : Nat) (s₀ s : Shared) (H : Hp), n + ys.length = sizeLine → GI Y S [] ys σw H s → tn i s.heap → (∀ b ∈ fp, H b = none) → W i m ys H →
      Seg (model Y.prog Y.w) A (REnd Y.prog Y.w Y.outer Y.H_0 Y.s_0 Y.ex S a gn Qc E) (YItem Y.s_0 S a gn) n s₀
        (.compLoop (.GeneratorExp elt [⟨tg, iter, ifs, 0⟩] scope gpos) 0 (.ref it) .none Y.env) ((model Y.prog Y.w).den (.compLoop (.GeneratorExp elt [⟨tg, iter, ifs, 0⟩] scope gpos) 0 (.ref it) .none Y.env)) [] s := by
  intro m
  induction m using Nat.strongRecOn with
  | ind m ih =>
    intro i ys n s₀ s H hn hI st nfp w
    have stat : ∀ {acc : Array Value} {c : Nat} {σ' : L2.St} {H' : Hp} {s' : Shared}, Inv Y [(S, lstObj acc c)] σ' H' s' → (∀ b ∈ fp, H' b = none) → ∀ b ∈ fp, FpOk Y [(S, lstObj acc c)] H' b := fun {acc c σ' H' s'} I' hn b hb =>
      ⟨hn b hb, (I'.ok.exf b (hex b hb)).1, I'.ok.exfs b (hex b hb), .inl (hex b hb), fun x c e => (I'.ok.exf b (hex b hb)).2 x c e, fun p hp => by
        rcases List.mem_append.mp hp with z | z
        · exact hpf p z b hb
        · rw [List.mem_singleton.mp z]
          exact fun e => hfpS b hb e.symm⟩
    obtain ⟨acc, cc, rv, I⟩ := hI
    show Seg _ A _ _ _ s₀ _ ((compTurn (.GeneratorExp elt [⟨tg, iter, ifs, 0⟩] scope gpos) 0 (.ref it) .none Y.env).onRaise (leaving Y.env)) [] s
    rw [compTurn_gen, Sem.onRaise_eq_wrap]
    refine seg_bind_wrap (wpAny_standAt ?_)
    rcases turn i m ys H w with ⟨stop, qq⟩ | ⟨go, Nx, hNx, step⟩
    · have td := T.done Y rfl rfl rfl hc i _ s _ H (fun _ _ => False) I (stat I nfp) st stop
      refine seg_bind_wrap ?_
      rw [hA]
      refine thnF td fun r s6 ⟨hr, I6⟩ => ?_
      subst hr
      refine seg_end (.ok .next) (.inl ⟨.inr rfl, H, ys, acc, cc, I6.os, I6.bare, I6.base, I6.hok, ?_, ?_, rv, by omega, qq⟩)
      · exact (I6.pin (S, lstObj acc cc) (List.mem_append_right _ List.mem_cons_self)).2.1
      · exact (I6.pin (S, lstObj acc cc) (List.mem_append_right _ List.mem_cons_self)).1
    · have ti := T.item Y rfl rfl rfl hc i _ s _ H (fun _ _ => False) I (stat I nfp) st go
      refine seg_bind_wrap ?_
      rw [hA]
      refine thnF ti fun r s6 ⟨u, hr, h6⟩ => ?_
      subst hr
      refine seg_bind_wrap ?_
      rw [hA]
      refine thnF h6 fun _ s7 ⟨x, H7, I7, r7, y7, st7, n7⟩ => ?_
      have I7' := I7.pinned (stat I7 n7) (T.obj _ _ st7)
      refine seg_bind_wrap ?_
      rw [hA]
      have pgr := pg.run _ s7 _ H7 x u _ I7' r7 (step x H7 y7)
      rw [hxe] at pgr
      refine thnF pgr fun _ s8 ⟨σ8, H8, I8, hw8, q8⟩ => ?_
      refine seg_bind_wrap ?_
      rw [hA]
      have ptr := pt.run _ s8 σ8 H8 _ I8 q8
      rw [hxe] at ptr
      refine thnF ptr fun b s9 ⟨H9, I9, q9⟩ => ?_
      have fin : ∀ {zs : List V} {s' : Shared} {H' : Hp}, GI Y S (pinsAt fp s7.heap) zs σ8 H' s' → GI Y S [] zs σw H' s' ∧ tn (i + 1) s'.heap ∧ ∀ b ∈ fp, H' b = none := fun {zs s' H'} hG => by
        obtain ⟨acc', cc', rv', I'⟩ := hG
        have pin' : ∀ b ∈ fp, ∀ o, s7.heap.get? b = some o → s'.heap.get? b = some o ∧ H' b = none := fun b hb o e =>
          let z := I'.pin (b, o) (List.mem_append_right _ (List.mem_cons_of_mem _ (mem_pinsAt hb e)))
          ⟨z.1, z.2.1⟩
        have hl : σw.length = σ8.length := by rw [← hw8, wipe_length]
        refine ⟨⟨acc', cc', rv', ((I'.pins_of fun p hp => I'.pin p (List.mem_append_right _ (by rw [List.mem_singleton.mp hp]; exact List.mem_cons_self))).weak hl fun j v e => ?_)⟩, T.keep _ _ _ st7 fun b hb o e => (pin' b hb o e).1, fun b hb => ?_⟩
        · rw [← hw8] at e
          exact (wipe_some e).1
        · obtain ⟨o, e, _⟩ := T.obj _ _ st7 b hb
          exact (pin' b hb o e).2
      cases b with
      | false =>
        simp only [Bool.false_eq_true, if_false] at q9 ⊢
        obtain ⟨m', hm, w'⟩ := hNx ys H9 q9
        obtain ⟨g1, g2, g3⟩ := fin ⟨acc, cc, rv, I9⟩
        exact seg_again rfl (ih m' hm (i + 1) ys n s₀ _ H9 hn g1 g2 g3 w')
      | true =>
        simp only [if_true] at q9 ⊢
        have hy : ∀ v, yieldOut Y.env v = yieldValue v := fun v => by simp only [yieldOut, hco, Bool.false_eq_true, if_false]
        simp only [hy]
        rw [Sem.bind_eq_wrap', Sem.bind_eq_wrap', Sem.wrap_wrap, Sem.wrap_wrap]
        refine seg_wrap ?_
        rw [hA]
        have per := pe.run _ s9 σ8 H9 _ I9 q9
        rw [hxe] at per
        refine thnF per fun z s10 ⟨yv, H10, I10, r10, hlt, nx⟩ => ?_
        obtain ⟨n', rfl⟩ : ∃ n', n = n' + 1 := ⟨n - 1, by omega⟩
        have G10 : GI Y S (pinsAt fp s7.heap) ys σ8 H10 s10 := ⟨acc, cc, rv, I10⟩
        obtain ⟨m', hm, w'⟩ := hNx (ys ++ [yv]) H10 nx
        have hS10 := (I10.pin (S, lstObj acc cc) (List.mem_append_right _ List.mem_cons_self)).1
        have hacc : acc.size = ys.length := by rw [rv.length, Array.length_toList]
        refine seg_at (seg_yield rfl rfl rfl ⟨I10.os, I10.bare, I10.nolimit, hgen I10, ⟨acc, cc, hS10, by omega⟩, fun s'' zz => ?_⟩)
        have G11 := G10.woken hpnS (fun p hp => hfpS _ (of_pinsAt hp).1) apart r10 zz
        obtain ⟨g1, g2, g3⟩ := fin G11
        refine seg_again rfl (ih m' hm (i + 1) (ys ++ [yv]) n' s'' s'' H10 ?_ g1 g2 g3 w')
        rw [List.length_append, List.length_singleton]
        omega
end
end TA
set_option maxHeartbeats 4000000
namespace TA
open PySem PySem.Spec PyProof.Rows L2
open GxR (TabB TabG Tabbed)
/-- what is walked, the def's table at P, each turn; Qc: of all that is handed out -/
def tGx (P : Addr) (wi : TI) (g : TG) (tt : TT) (te : TE) (vs : List Nat) : L2.St → Hp → (List V → Hp → Prop) → Prop := fun σ H Qc =>
  wi σ H fun J H1 => TabG H1 P ∧ ∀ H2, Tabbed P H1 H2 → ∃ W : Nat → Nat → List V → Hp → Prop, (∃ m, W 0 m [] H2) ∧ GxTurn J g tt te vs (wipe σ vs) W Qc
section
variable {X : Cx}
theorem pgen_exp {k : Nat} {c P : Addr} {elt tg iter : Expr} {ifs : List Expr} {scope : Scope} {gpos : Pos} {own : List (Str × Nat)} {wi : TI} {g : TG} {tt : TT} {te : TE} (hr : Room k X.A) (hc : X.calm = true) (hN : X.N.Nodup) (TB : TabB X.base X.mg c P) (hcode : X.env.code = .ref c)
    (ok : GxOk X.N X.env.scope scope own) (hi : PI X tg iter wi)
    (hg : ∀ (A : Around) (s : Shared) (H : Hp) (C : Addr) (cd : Value) (fp : List Addr) (pn : List (Addr × Obj)), PG (gxCx X A s H (gxEnv X scope C cd) fp pn) tg g)
    (ht : ∀ (A : Around) (s : Shared) (H : Hp) (C : Addr) (cd : Value) (fp : List Addr) (pn : List (Addr × Obj)), Room k A → PTs (gxCx X A s H (gxEnv X scope C cd) fp pn) ifs tt)
    (he : ∀ (A : Around) (s : Shared) (H : Hp) (C : Addr) (cd : Value) (fp : List Addr) (pn : List (Addr × Obj)), Room k A → PE (gxCx X A s H (gxEnv X scope C cd) fp pn) elt te)
    (hs : ∀ v, genFold iter X.env v = pure v := by intro _; rfl) : PGen X k (.GeneratorExp elt [⟨tg, iter, ifs, 0⟩] scope gpos) (tGx P wi g tt te (own.map (·.2))) E0 := by
  refine ⟨fun pins s σ H cont I h => ?_⟩
  have hfree : ∀ y ∈ scope.names, y.2 = .free → ∃ c, X.env.cells.lookup y.1 = some c := fun y hy e => by
    rcases ok.blk.free y hy e with k | k
    · exact I.ok.has _ (.inl k)
    · exact I.ok.has _ (.inr k)
  refine wpAny_GeneratorExp_make ok.co (closure_ok hfree) ok.cell ok.dot ok.blk.kind hr.depth ?_ hs
  refine thn (hi.run pins s σ H _ I h) fun xv s1 hx => thn hx fun itv s2 h2 => ?_
  obtain ⟨it, fp, tn, J, H2, e, I2, T, st2, f2, ⟨ps, hP, htr⟩, q⟩ := h2
  subst e
  refine ⟨I2.nolimit, ?_⟩
  have hPs : s2.heap.get? P = some { cls := .none, data := .fields ps } := I2.hok P _ hP
  have hPlt : P < s2.heap.objs.size := Heap.lt_size hPs
  have cd : PySem.W.CodeHd s2.heap c P := TB.code.keeps I2.bk
  have fpP : ∀ b ∈ fp, b ≠ P := fun b hb e => by
    have := (f2 b hb).1
    rw [e, hP] at this
    cases this
  have main : ∀ (code : Value) (h3 : Heap) (tk : Nat) (more : Array Value), Heap.ExtBut P s2.heap h3 → s2.heap.objs.size ≤ h3.objs.size → h3.get? P = some { cls := .none, data := .fields (ps ++ more) } → TriplesOk (ps ++ more).toList →
      wpAny (model X.prog X.w) X.A (builtinsFor X.env.globals X.env.builtins) (fun bi s₄ =>
        ∀ h', h'.Ns s₄.heap.objs.size (fun y => if y = ".0" then some (Value.ref it) else none) → Heap.SameBut s₄.heap.objs.size (s₄.heap.push { cls := .type "frame", data := .dict #[] }) h' →
          (∃ H1 sc ex, Inv X pins σ H1 sc ∧ ExOk X pins ex ∧ GMade X.prog X.w k X.stack H1 sc ex cont E0 (.ref h'.objs.size) { s₄ with
            gens := s₄.gens.push (.fresh (.compStart (.GeneratorExp elt [⟨tg, iter, ifs, 0⟩] scope gpos) 0 (.ref it) .none (genEnv scope (cloFrom X.env.cells scope.names []) s₄.heap.objs.size code bi X.env))),
            toks := s₄.toks + 1 + 1 + 1,
            heap := h'.push { cls := .type "generator", data := .fields #[.int s₄.gens.size 0, .str "<genexpr>" (s₄.toks + 1), .str (X.env.qual ++ "<genexpr>") (s₄.toks + 1 + 1)] } })) X.xe { s2 with heap := h3, toks := tk } := by
    intro code h3 tk more hx hsz hP3 ht3
    obtain ⟨bm, ob, e1, e2, e3, e4, e5, e6, e7, e8⟩ := TB.bm
    have keep3 : ∀ b u, b ≠ P → s2.heap.get? b = some u → h3.get? b = some u := fun b u hb e => hx b u hb e
    refine wpAny_builtinsFor (m := X.mg) (by rw [I2.ok.glob]; exact (I2.mod.glob.keeps I2.bk).extBut hx TB.gP) e1 e2 (keep3 _ _ e4 (I2.bk _ _ e5)) e6 e7 e8 ?_
    intro h' hn' hs'
    -- the def's own state, the table grown
    have Isc : Inv X pins σ (upd H2 P (.tbl (ps ++ more))) { s2 with heap := h3, toks := tk } := by
      have z := GxR.inv_tab (more := more) (h' := h3) (g' := s2.gens) (d' := s2.drawn) (t' := tk) I2 hP keep3 hP3 I2.bare
      exact z
    have tab : Tabbed P H2 (upd H2 P (.tbl (ps ++ more))) := ⟨⟨_, upd_same, ht3⟩, fun b hb => upd_ne hb⟩
    obtain ⟨W, ⟨m0, w0⟩, turn⟩ := q _ tab
    generalize hH1 : upd H2 P (.tbl (ps ++ more)) = H1 at Isc w0
    have fpn : ∀ b ∈ fp, H1 b = none := fun b hb => by rw [← hH1, upd_ne (fpP b hb)]; exact (f2 b hb).1
    have fsz : ∀ b ∈ fp, b < s2.heap.objs.size := fun b hb => by
      obtain ⟨o, e, _⟩ := T.obj _ _ st2 b hb
      exact Heap.lt_size e
    generalize hsc : ({ s2 with heap := h3, toks := tk } : Shared) = sc at Isc hn' hs' ⊢
    have hh3 : sc.heap = h3 := by rw [← hsc]
    have tn3 : tn 0 sc.heap := by
      rw [hh3]
      exact T.keep _ _ _ st2 fun b hb o e => keep3 b o (fpP b hb) e
    have hfp : ∀ b ∈ fp, FpOk X pins H1 b ∧ b < sc.heap.objs.size := fun b hb => ⟨⟨fpn b hb, (f2 b hb).2⟩, by rw [hh3]; exact Nat.lt_of_lt_of_le (fsz b hb) hsz⟩
    have hszp : h'.objs.size = sc.heap.objs.size + 1 := by rw [hs'.1, Heap.size_push]
    have keep' : ∀ b o, sc.heap.get? b = some o → h'.get? b = some o := fun b o e => hs'.extBut b o (Nat.ne_of_lt (Heap.lt_size e)) (Heap.get?_push_of_some _ e)
    generalize hgo : ({ cls := .type "generator", data := .fields #[.int sc.gens.size 0, .str "<genexpr>" (sc.toks + 1), .str (X.env.qual ++ "<genexpr>") (sc.toks + 1 + 1)] } : Obj) = go
    have hgt : (h'.push go).get? h'.objs.size = some go := by
      rw [← hgo]
      exact Heap.get?_push_size _ rfl
    have isg : ∀ {hh : Heap}, hh.get? h'.objs.size = some go → hh.IsGen h'.objs.size sc.gens.size := fun {hh} e => by
      rw [← hgo] at e
      exact ⟨_, _, _, e, rfl, rfl, rfl⟩
    refine ⟨H1, sc, fp, Isc, fun b hb => ⟨(hfp b hb).1.2.2.2.1, (hfp b hb).1.2.1, (hfp b hb).1.2.2.2.2.1, (hfp b hb).1.2.2.2.2.2⟩, ?_⟩
    refine ⟨h'.objs.size, sc.gens.size, _, rfl, by omega, by show _ < (h'.push go).objs.size; rw [Heap.size_push]; exact Nat.lt_succ_self _, isg hgt, Array.getElem?_push_size .., rfl, Isc.bare.push rfl, ?_, fun b o e => Heap.get?_push_of_some _ (keep' b o e), ?_⟩
    · exact Isc.nolimit.keeps fun b o e => Heap.get?_push_of_some _ (keep' b o e)
    · intro A S s9 hrA hfr hS hk9 ⟨c9, hS9⟩ hos9 hb9
      have hS' : h'.objs.size + 1 ≤ S := by
        have z : (h'.push go).objs.size ≤ S := hS
        rw [Heap.size_push] at z
        exact z
      have hSC : (sc.heap.objs.size : Nat) < S := by omega
      have haS : (h'.objs.size : Nat) < S := by omega
      have haC : (sc.heap.objs.size : Nat) < h'.objs.size := by omega
      have kp9 : ∀ b o, sc.heap.get? b = some o → s9.heap.get? b = some o := fun b o e => hk9 b o (Heap.get?_push_of_some _ (keep' b o e))
      have I9 := gx_start (A := A) (code := code) (itv := .ref it) (s2 := s9) (pn := [(h'.objs.size, go)]) (pw := [(S, lstObj #[] c9)]) Isc ok hN hfp hrA.hd hfr hos9 hb9
        ((hn'.push go).keeps fun b o e => hk9 b o e) kp9 (fun p hp => by
          rcases List.mem_append.mp hp with z | z
          · rw [List.mem_singleton.mp z]
            exact ⟨hk9 _ _ hgt, by show sc.heap.objs.size < h'.objs.size; omega, fun v e => by rw [← hgo] at e; cases e⟩
          · rw [List.mem_singleton.mp z]
            exact ⟨hS9, by show sc.heap.objs.size < S; omega, fun v e => by cases e⟩)
      have st9 : tn 0 s9.heap := T.keep _ _ _ tn3 fun b _ o e => kp9 b o e
      have loop := gx_loop (Y := gxCx X A sc H1 (gxEnv X scope sc.heap.objs.size code) fp [(h'.objs.size, go)]) (A := A) (elt := elt) (tg := tg) (iter := iter) (ifs := ifs) (scope := scope) (gpos := gpos) (S := S) (a := h'.objs.size) (gn := sc.gens.size) (E := E0)
        over_gx rfl rfl ok.co T (hg A sc H1 _ code fp _) (ht A sc H1 _ code fp _ hrA) (he A sc H1 _ code fp _ hrA)
        ⟨by show sc.heap.objs.size ≤ S; omega, Nat.ne_of_gt hSC, fun x c e z => by
          obtain ⟨w, zz⟩ := I9.cell x c e
          have e' : (cloFrom X.env.cells scope.names []).lookup x = some c := e
          rcases cloFrom_mem (PySem.mem_of_lookup e') with hm | ⟨h1, h2⟩
          · cases hm
          · obtain ⟨c', hc'⟩ := hfree _ h1 rfl
            have hc2 : X.env.cells.lookup x = some c' := hc'
            rw [hc2] at h2
            have h3 : c = c' := h2
            subst h3
            obtain ⟨w', z'⟩ := Isc.cell x c hc2
            have zl := z'.lt
            rw [z] at zl
            exact absurd (Nat.lt_trans hSC zl) (Nat.lt_irrefl _)⟩
        (fun p hp => by rw [List.mem_singleton.mp hp]; exact Nat.ne_of_lt haS) (fun b hb => Nat.ne_of_lt (Nat.lt_trans (hfp b hb).2 hSC)) (fun b hb => hb)
        (fun p hp b hb => by rw [List.mem_singleton.mp hp]; exact Nat.ne_of_gt (Nat.lt_trans (hfp b hb).2 haC))
        (fun {pins σ H s} J => isg (J.pin (h'.objs.size, go) (List.mem_append_left _ (List.mem_singleton.mpr rfl))).1) turn
        m0 0 [] sizeLine s9 s9 H1 (Nat.add_zero _) ⟨#[], c9, .nil, I9⟩ st9 fpn w0
      show Seg _ A _ _ _ s9 _ ((compStart (.GeneratorExp elt [⟨tg, iter, ifs, 0⟩] scope gpos) 0 (.ref it) .none (gxEnv X scope sc.heap.objs.size code)).onRaise (leaving (gxEnv X scope sc.heap.objs.size code))) [] s9
      unfold compStart
      rw [Sem.onRaise_eq_wrap]
      show Seg _ A _ _ _ s9 _ ((ask >>= _).wrap _ _ _ _) [] s9
      refine seg_bind_wrap (wpAny_askSetting ?_)
      split
      · exact seg_again rfl loop
      · first
          | exact seg_bind_wrap (wpAny_rule (seg_bind_wrap (wpAny_standAt (seg_bind_wrap (T.self _ 0 s9 _ _ st9 (seg_again rfl loop))))))
          | (refine seg_bind_wrap (wpAny_rule ?_); show Seg _ A _ _ _ s9 _ ((standAt iter.pos >>= _).wrap _ _ _ _) [] s9; exact seg_bind_wrap (wpAny_standAt (seg_bind_wrap (T.self _ 0 s9 _ _ st9 (seg_again rfl loop)))))
  cases hf : codeAmong gpos ps.toList with
  | none =>
    refine wpAny_genexprCodeX hcode (cd.code hPs htr) (cd.tab hPs) hf fun c' h' tk hx hge hlt hco' _ htab' _ => ?_
    obtain ⟨o1, vs, f1, tf, fl, tg', inF, tx, tt', op, _, _, _, _, _, _, _, _, _, htr', _⟩ := hco'
    exact main _ h' tk _ hx (Nat.le_trans hge (Nat.le_of_lt hlt)) htab'.2 htr'
  | some cv =>
    refine wpAny_genexprCode_hit hcode (cd.code hPs htr) hf ?_
    exact main cv s2.heap s2.toks #[] (Heap.ExtBut.refl _ _) (Nat.le_refl _) (by rw [Array.append_empty]; exact hPs) (by rw [Array.append_empty]; exact htr)
end
end TA
set_option maxHeartbeats 4000000
namespace TA
open PySem PySem.Spec PyProof.Rows L2
/-- a generator that has not begun is drained into a list -/
theorem collect_gm {P : Program} {w : World} {ou : List Env} {H : Hp} {sc s : Shared} {ex : List Addr} {Qc : List V → Hp → Prop} {B : Around} {k : Nat} {u : Value} {Q' : List Value → Shared → Prop} {E : Value → Shared → Prop}
    (hr : Room k B.in1.in1) (hd : B.depth < recursionLimit) (hfr : B.frames = some ou) (h : GMade P w k ou H sc ex Qc E0 u s)
    (hQ : ∀ (s' : Shared) (acc : Array Value) (H' : Hp) (ys : List V), Vals ys acc.toList → ys.length ≤ sizeLine → s'.os = sc.os → AllBare s'.gens → Un (frs ou) ex H H' sc.heap s'.heap → HOk P w H' s'.heap → Qc ys H' → Q' acc.toList s') :
    wpAny (model P w) B (collect u) Q' E s := by
  obtain ⟨a, g, c, rfl, ha1, ha2, hg, hgs, hos, hb, hl, hkp, wake⟩ := h
  have hSa : s.heap.objs.size ≠ a := Nat.ne_of_gt ha2
  have hcl : cStatics < s.heap.objs.size := let ⟨_, hn, _⟩ := hl; hn.lt
  have hSc : s.heap.objs.size ≠ cStatics := Nat.ne_of_gt hcl
  unfold collect
  refine wpAny_bind (wpAny_runValue (codeAny_builtin F.entry_proto_collect ?_))
  rw [Around.under_plainId F.plain_proto_collect _]
  show wpAny _ B.in1 (newList [] >>= fun l => again (.builtin "list.__iadd__" ⟨[l, .ref a], []⟩)) _ _ s
  refine wpAny_bind (wpAny_newObj_type ?_)
  refine wpAny_pure ⟨plainId_quiet F.plain_list_iadd _, codeAny_builtin F.entry_list_iadd ?_⟩
  rw [Around.under_plainId F.plain_list_iadd _]
  show wpAny _ B.in1 (Builtin.List.listExtendWith (.ref s.heap.objs.size) (.ref a) (.ref s.heap.objs.size)) _ _ _
  have up : ∀ (h : Heap) (f : Obj → Obj), (∀ b o, s.heap.get? b = some o → h.get? b = some o) → ∀ b o, s.heap.get? b = some o → (h.update s.heap.objs.size f).get? b = some o := fun h f q b o e =>
    (Heap.get?_update_other _ _ (Ne.symm (Nat.ne_of_lt (Heap.lt_size e)))).trans (q b o e)
  have k1 : ∀ b o, s.heap.get? b = some o → (s.heap.push { cls := .type "list", data := .seq ([] : List Value).toArray }).get? b = some o := fun b o e => Heap.get?_push_of_some _ e
  have gty : ∀ {h : Heap}, (∀ b o, s.heap.get? b = some o → h.get? b = some o) → h.IsGen a g := fun {h} q => hg.keeps q
  unfold Builtin.List.listExtendWith
  refine wpAny_bind (wpAny_typeOf (Heap.IsGen.typeIs (s := { s with heap := _ }) (gty k1)) ?_)
  have h1 : Builtin.List.listSameRef (.ref s.heap.objs.size) (.ref a) = false := by simp [Builtin.List.listSameRef, hSa]
  have h2 : (Value.type "generator" == Value.type "list") = false := by decide
  have h3 : (Value.type "generator" == Value.type "tuple") = false := by decide
  simp only [h1, h2, h3, Bool.or_false, Bool.false_eq_true, if_false]
  refine wpAny_bind (wpAny_pyIter_gen (s := { s with heap := _ }) (gty k1) ?_)
  refine wpAny_bind (wpAny_holding ?_)
  unfold Builtin.List.listLengthHint
  refine wpAny_bind (wpAny_specialOf (Heap.IsGen.typeIs (s := { s with heap := _ }) (gty k1)) F.gen_no_len ?_)
  show wpAny _ B.in1 (specialOf (Value.ref a) (Str.ofString "__length_hint__") >>= _) _ _ _
  refine wpAny_bind (wpAny_specialOf (Heap.IsGen.typeIs (s := { s with heap := _ }) (gty k1)) F.gen_no_hint ?_)
  refine wpAny_pure ?_
  show wpAny _ B.in1 (rule "list.extend.makes-room" >>= fun _ => Builtin.List.listTouch (.ref s.heap.objs.size) >>= fun _ =>
    again (.builtin "list.extend.loop" ⟨[.ref s.heap.objs.size, .ref a, .ref s.heap.objs.size], []⟩)) _ _ _
  refine wpAny_bind (wpAny_rule ?_)
  have hS1 : (s.heap.push { cls := .type "list", data := .seq ([] : List Value).toArray }).get? s.heap.objs.size = some { cls := .type "list", data := .seq ([] : List Value).toArray } := Heap.get?_push_size _ rfl
  refine wpAny_bind ?_
  show wpAny _ B.in1 (updateSeq s.heap.objs.size (·.push .none) >>= fun _ => updateSeq s.heap.objs.size (·.pop)) _ _ _
  refine wpAny_bind (wpAny_updateSeq hS1 rfl ?_)
  have hS2 := Heap.get?_update_self (Obj.mapSeq (·.push Value.none)) hS1 rfl
  refine wpAny_updateSeq hS2 rfl ?_
  have hS3 := Heap.get?_update_self (Obj.mapSeq (·.pop)) hS2 rfl
  have k3 := up _ (Obj.mapSeq (·.pop)) (up _ (Obj.mapSeq (·.push Value.none)) k1)
  refine wpAny_pure ⟨plainId_quiet F.plain_extend_loop _, ?_⟩
  refine drain (P := P) (w := w) (outer := ou) (H := H) (sc := sc) (ex := ex) (Q := Qc) (EX := E0) (A := B) (g := g) hr.hd hd hSa hSc
    (fun s' acc c' H' ys q1 q2 q3 q4 q5 q6 q7 q8 q9 => ?_) (fun e s' hc => ?_) sizeLine _ (gty k3) (hl.keeps k3) ⟨_, hgs, rfl, ?_⟩
  · show wpAny _ B (load s.heap.objs.size >>= _) _ _ s'
    refine wpAny_bind (wpAny_load q1 ?_)
    exact wpAny_pure (hQ s' acc H' ys q2 q3 q4 q5 q6 q7 q9)
  · obtain ⟨_, _, _, _, _, _, _, _, _, _, _, _, z⟩ := hc
    exact z.elim
  · exact wake _ _ _ hr hfr (Nat.le_refl _) k3 ⟨_, hS3⟩ hos (allBare_setGen (s := { s with heap := _ }) hb rfl)
theorem Room.in4 {k : Nat} {A : Around} (r : Room (k + 1) A) : Room k A.in1.in1.in1.in1 :=
  ⟨r.hd, by have := r.dp; show A.depth + 3 * k + 5 < _; omega, by have := r.un; show A.units + 1 + 1 + 1 + 1 + 16 * k + 200 < _; omega⟩
section
variable {P : Program} {w : World} {ou : List Env} {H : Hp} {sc s : Shared} {ex : List Addr} {Qc : List V → Hp → Prop} {k : Nat} {u : Value} {E : Value → Shared → Prop}
theorem code_tuple_gm {B : Around} {Q1 : Value → Shared → Prop} (hr : Room k B.in1.in1.in1) (hd : B.depth < recursionLimit) (hfr : B.frames = some ou) (h : GMade P w k ou H sc ex Qc E0 u s)
    (hQ : ∀ (s' : Shared) (acc : Array Value) (H' : Hp) (ys : List V), Vals ys acc.toList → ys.length ≤ sizeLine → s'.os = sc.os → AllBare s'.gens → Un (frs ou) ex H H' sc.heap s'.heap → HOk P w H' s'.heap → Qc ys H' →
      Q1 (.ref s'.heap.objs.size) { s' with heap := s'.heap.push { cls := .type "tuple", data := .seq acc } }) :
    codeAny (model P w) B (.call (.builtin "tuple.__new__") ⟨[.type "tuple", u], []⟩) (wants Q1 E) s := by
  have hG := h
  obtain ⟨a, g, c, rfl, _, _, hg, _⟩ := h
  refine codeAny_of_tree ?_
  show wpAny _ B.in1 (do checkBuiltinCall "tuple.__new__" ⟨[.type "tuple", .ref a], []⟩; again (.builtin "tuple.__new__" ⟨[.type "tuple", .ref a], []⟩)) _ _ s
  refine wpAny_bind (wpAny_of_eq (F.newCall_tuple_1 _) (wpAny_pure ⟨plainId_quiet F.plain_tuple_new _, codeAny_builtin F.entry_tuple_new ?_⟩))
  rw [Around.under_plainId F.plain_tuple_new _]
  have hsub := sub_tuple_self
  have hinit := init_tuple_lookup
  have hmh := madeHere_tuple
  have hTI : s.TypeIs (.ref a) "generator" := hg.typeIs
  wp_walk using wpAny_typeOf hTI, collect_gm (B := B.in1) hr hd hfr hG
  intro s' acc H' ys q1 q2 q3 q4 q5 q6 q7
  show wpAny _ _ (Builtin.Tuple.tupleExact acc.toList.toArray >>= fun v => ret v) _ _ _
  unfold Builtin.Tuple.tupleExact
  refine wpAny_bind (wpAny_newObj_type ?_ (by show acc.toList.toArray.size ≤ sizeLine; rw [List.size_toArray, ← q1.length]; exact q2))
  refine wpAny_pure ?_
  have e : acc.toList.toArray = acc := by simp
  rw [e]
  exact hQ s' acc H' ys q1 q2 q3 q4 q5 q6 q7
theorem call_tuple_gm {A : Around} {Q' : Value → Shared → Prop} (hr : Room (k + 1) A) (hfr : A.frames = some ou) (h : GMade P w k ou H sc ex Qc E0 u s)
    (hQ : ∀ (s' : Shared) (acc : Array Value) (H' : Hp) (ys : List V), Vals ys acc.toList → ys.length ≤ sizeLine → s'.os = sc.os → AllBare s'.gens → Un (frs ou) ex H H' sc.heap s'.heap → HOk P w H' s'.heap → Qc ys H' →
      Q' (.ref s'.heap.objs.size) { s' with heap := s'.heap.push { cls := .type "tuple", data := .seq acc } }) :
    wpAny (model P w) A (call (.type "tuple") [u]) Q' E s := by
  have hd := hr.depth
  have hr4 := Room.in4 hr
  obtain ⟨a, g, c, rfl, r⟩ := id h
  refine callType_codes (Q₁ := fun obj s₁ => s₁.TypeIs obj "tuple" ∧ Q' obj s₁) F.called_tuple (F.typeCall_tuple_1 _) F.entry_object_init
    (code_tuple_gm (B := A.in1) hr4 hd hfr h fun s' acc H' ys q1 q2 q3 q4 q5 q6 q7 => ⟨⟨_, Heap.get?_push_size _ rfl, rfl⟩, hQ s' acc H' ys q1 q2 q3 q4 q5 q6 q7⟩) fun obj s₁ h₁ => ?_
  exact ⟨h₁.1, F.args_object_init_2 obj _, object_init_meets F.called_tuple.init.lookup F.called_tuple.made (by decide) P w A.in1 _ s₁ ⟨h₁.1, rfl, h₁.2⟩⟩
end
section
variable {X : Cx} {k : Nat} {p pos : Pos}
/-- behind the draining: what the items' end left -/
theorem Inv.drained0 {pins : List (Addr × Obj)} {σ : L2.St} {H H' : Hp} {sc s' : Shared} {ex : List Addr} (I : Inv X pins σ H sc) (hex : ExOk X pins ex) (os : s'.os = sc.os) (hb : AllBare s'.gens) (un : Un (frs X.stack) ex H H' sc.heap s'.heap) (hok : HOk X.prog X.w H' s'.heap) : Inv X pins σ H' s' :=
  I.call' (ch := ex) os un hok hb hex
def tTupG (tg : TGen) : TE := fun σ H Q => tg σ H fun out H2 => ∀ q, H2 q = none → Q (.ref q) (upd H2 q (.tup out))
/-- tuple(g) -/
theorem pe_tupGx {e : Expr} {tg : TGen} (h : PGen X k e tg E0) (hr : Room (k + 1) X.A) (hg : Gl X "tuple") (hmg : X.mg "tuple" = none)
    (he : starEach [e] X.env = (false, eval e X.env) :: starEach [] X.env := by rfl) : PE X (.Call (.Name "tuple" p) [e] [] pos) (tTupG tg) := by
  refine ⟨fun pins s σ H Q I hq => ?_⟩
  refine wpAny_Call_Name_kw (ld_blt I hg hmg boot_tuple ?_ (by decide) (by decide))
  refine PyProof.Rows.callWith_type1 ?_ he rfl
  rw [he]
  show wpAny _ _ (spliced ((false, eval e X.env) :: backTo pos (starEach [] X.env))) _ _ s
  refine Calls.spliced_cons (thn (h.run pins s σ H _ I hq) fun u s1 ⟨H1, sc, ex, I1, hex, hG⟩ => ?_)
  refine Calls.spliced_nil ?_
  refine call_tuple_gm hr I1.ok.frames hG fun s' acc H' ys q1 q2 q3 q4 q5 q6 q7 => ?_
  have J := Inv.drained0 I1 hex q3 q4 q5 q6
  refine ⟨.ref s'.heap.objs.size, upd H' s'.heap.objs.size (.tup ys), J.laid (t' := s'.toks) (fun b o e => Heap.get?_push_of_some _ e) (Nat.le_refl _) ⟨q2, acc.toList, q1, ⟨_, Heap.get?_push_size _ rfl, rfl, _, by simp; rfl⟩⟩, rfl, q7 _ (J.hok.fresh (Nat.le_refl _))⟩
end
end TA
set_option maxHeartbeats 4000000
namespace TA
open PySem PySem.Spec PyProof.Rows L2
open AutoSeq1 (wpAny_loadPart')
/-! ### enumerate(tuple) -/
theorem meets_enumT (l : Addr) (items : Array Value) (n : Nat) (dct : Option Addr) (sl : Array (Option Value)) :
    Meets (Builtin.«enumerate.__new__» ⟨[.type "enumerate", .ref l], []⟩) (fun _ R s => s.heap.get? l = some { cls := .type "tuple", dict := dct, data := .seq items n, slots := sl } ∧
      R (.ok (.ret (.ref (s.heap.push { cls := .type "tuple_iterator", data := .fields #[.ref l, .int 0 0] }).objs.size)))
        { s with heap := (s.heap.push { cls := .type "tuple_iterator", data := .fields #[.ref l, .int 0 0] }).push { cls := .type "enumerate", data := .fields #[.none, .bool false, .ref s.heap.objs.size, rawInt 0, .none, .none] } }) :=
  .of_wp fun prog w A R s h => by
    obtain ⟨hp, g, d, tk, os⟩ := s
    obtain ⟨hl, h⟩ := h
    have hsub := sub_enumerate
    have hL : Heap.IsTuple (Shared.heap ⟨hp, g, d, tk, os⟩) l items := ⟨_, hl, rfl, n, rfl⟩
    wp_walk using wpAny_loadPart' hl
    refine wpAny_stack_any fun st => wpAny_pure ?_
    split
    · rename_i c _ _ _ _ _
      cases (c == Value.type "enumerate")
      · wp_walk using wpAny_loadPart' hl, wpAny_pyIter_tuple hL
        exact ⟨_, rfl, h⟩
      · wp_walk using wpAny_loadPart' hl, wpAny_pyIter_tuple hL
        exact ⟨_, rfl, h⟩
    · wp_walk using wpAny_loadPart' hl, wpAny_pyIter_tuple hL
      exact ⟨_, rfl, h⟩
theorem call_enumT {prog : Program} {w : World} {A : Around} {E : Value → Shared → Prop} {s : Shared} {l : Addr} {items : Array Value} {Q : Value → Shared → Prop} (hL : s.heap.IsTuple l items)
    (h : ∀ h', IsEnum h' (s.heap.objs.size + 1) s.heap.objs.size 0 .none → h'.IsTupleIter s.heap.objs.size l 0 → h'.objs.size = s.heap.objs.size + 2 →
      (∀ b o, s.heap.get? b = some o → h'.get? b = some o) → Q (.ref (s.heap.objs.size + 1)) { s with heap := h' }) :
    wpAny (model prog w) A (call (.type "enumerate") [.ref l]) Q E s := by
  obtain ⟨⟨c, dct, dt, sl⟩, hl, hc, n, hd⟩ := hL
  replace hc : c = .type "tuple" := hc
  replace hd : dt = .seq items n := hd
  subst hc hd
  refine callType_new F.called_enumerate (by decide) (F.typeCall_enumerate_1 _) (F.newCall_enumerate_1 _) (fun obj => F.args_object_init_2 obj _) F.entry_enumerate_new
    (meets_enumT l items n dct sl) ⟨hl, ?_⟩
  have hz : (s.heap.push { cls := .type "tuple_iterator", data := .fields #[.ref l, .int 0 0] }).objs.size = s.heap.objs.size + 1 := Heap.size_push ..
  show _ ∧ _
  rw [hz]
  have he : IsEnum ((s.heap.push { cls := .type "tuple_iterator", data := .fields #[.ref l, .int 0 0] }).push
      { cls := .type "enumerate", data := .fields #[.none, .bool false, .ref s.heap.objs.size, rawInt 0, .none, .none] }) (s.heap.objs.size + 1) s.heap.objs.size 0 .none := by
    have := Heap.get?_push_size (s.heap.push { cls := .type "tuple_iterator", data := .fields #[.ref l, .int 0 0] })
      (o := { cls := .type "enumerate", data := .fields #[.none, .bool false, .ref s.heap.objs.size, rawInt 0, .none, .none] }) rfl
    rw [hz] at this
    exact this
  exact ⟨⟨_, he, rfl⟩, h _ he ⟨_, Heap.get?_push_of_some _ (Heap.get?_push_size _ rfl), rfl, rfl⟩ (by rw [Heap.size_push, hz]) fun b o x => Heap.get?_push_of_some _ (Heap.get?_push_of_some _ x)⟩
/-- the tuple at a, each item in a new pair -/
def IteT (K : PySem.W.Frag) (a : Addr) : It :=
  ⟨fun i H => ∃ (xs : List V) (x : V), SqT K H a xs ∧ xs[i]? = some x, fun i H v H' => ∃ T x, v = .ref T ∧ H T = none ∧ H' = upd H T (.tup [.int (i : Nat), x]) ∧ ∀ xs, SqT K H a xs → xs[i]? = some x, fun i H => ∃ xs : List V, SqT K H a xs ∧ xs.length ≤ i⟩
theorem turn_enumT {P : Program} {w : World} {K : PySem.W.Frag} {elts : List Expr} {kk : Nat} {tpos : Pos} (a e it : Addr) :
    Turn P w K (.Tuple elts kk tpos) (IteT K a) [e, it] e (fun i h => (∃ old, IsEnum h e it ((i : Nat) : Int) old) ∧ h.IsTupleIter it a i ∧ e ≠ it ∧ a ≠ it) where
  mem := by simp
  obj := fun i h st b hb => by
    obtain ⟨⟨old, he⟩, ⟨o, ho, hc, hd⟩, _⟩ := st
    have e' : b = e ∨ b = it := by simpa using hb
    rcases e' with z | z
    · rw [z]; exact ⟨_, he, fun v q => nomatch q⟩
    · rw [z]; exact ⟨o, ho, fun v q => by rw [hd] at q; cases q⟩
  keep := fun i h h' st k => by
    obtain ⟨⟨old, he⟩, hi, hne⟩ := st
    exact ⟨⟨old, k e (by simp) _ he⟩, hi.at fun o q => k it (by simp) o q, hne⟩
  item := by
    intro X hP hw hK hc i pins s σ H E I hf st hg
    subst hP hw hK
    obtain ⟨⟨old, he⟩, hit, hne, hai⟩ := st
    obtain ⟨xs, x, hq, hx⟩ := hg
    obtain ⟨its, rv, p, hz⟩ := I.tuple hq
    obtain ⟨u, hu, ru⟩ := rv.get hx
    have hel : e < s.heap.objs.size := Heap.lt_size he
    have hil : it < s.heap.objs.size := by obtain ⟨_, q, _⟩ := hit; exact Heap.lt_size q
    have hea : e ≠ a := fun z => by
      obtain ⟨o, q1, q2, _⟩ := id p
      rw [← z, he] at q1
      cases q1
      exact absurd (Value.type.inj q2) (by decide)
    have hlt : i < its.toArray.size := by
      have := (List.getElem?_eq_some_iff.mp hu).1
      simpa using this
    refine wpAny_pyNext_enum_itemD (Draws.tuple (A := X.A.in1) (I.ok.hd hc) it a hai its.toArray) he ⟨hit, p⟩ hlt hne (by simp [hne, hea]) fun u2 h' tk hu2 ho hst' hT hsz hk => ?_
    have eu : u2 = u := by
      have q : its[i]? = some u2 := by simpa using hu2
      rw [hu] at q
      exact (Option.some.inj q).symm
    subst eu
    refine ⟨_, rfl, wpAny_letOwnedTupleGo_enum (s := { s with heap := h', toks := tk + 1 }) ho fun h'' he' sb => ?_⟩
    have hT2 : h''.get? s.heap.objs.size = some { cls := .type "tuple", data := .seq #[.int i tk, u2] } := (sb.2 _ (Nat.ne_of_gt hel)).trans hT
    have new : ObjOk X.prog X.w (upd H s.heap.objs.size (.tup [.int (i : Nat), x])) h'' s.heap.objs.size (.tup [.int (i : Nat), x]) :=
      ⟨by show 2 ≤ sizeLine; decide, [.int i tk, u2], .cons ⟨_, rfl⟩ (.cons ru .nil), ⟨_, hT2, rfl, _, rfl⟩⟩
    have I1 : Inv X pins σ (upd H s.heap.objs.size (.tup [.int (i : Nat), x])) { s with heap := h'', toks := tk + 1 } :=
      I.turnedNew (ch := [e, it]) (fun b ob hb q => (sb.2 b (fun z => hb (by simp [z]))).trans (hk b ob (fun z => hb (by simp [z])) (fun z => hb (by simp [z])) q)) hf (Nat.le_refl _) new
    refine ⟨.ref s.heap.objs.size, _, I1, rfl, ⟨_, x, rfl, I.hok.fresh (Nat.le_refl _), rfl, fun ys hy => by rw [I.tuple_inj hy hq]; exact hx⟩, ⟨⟨u2, ?_⟩, hst'.1.at fun o q => (sb.2 it (Ne.symm hne)).trans q, hne, hai⟩, fun b hb => ?_⟩
    · have e1 : ((i + 1 : Nat) : Int) = (i : Int) + 1 := by omega
      rw [e1]
      exact he'
    · have hb' : b < s.heap.objs.size := by
        have e' : b = e ∨ b = it := by simpa using hb
        rcases e' with z | z
        · rw [z]; exact hel
        · rw [z]; exact hil
      rw [upd_ne (Nat.ne_of_lt hb')]
      exact (hf b hb).1
  done := by
    intro X hP hw hK hc i pins s σ H E I hf st hg
    subst hP hw hK
    obtain ⟨⟨old, he⟩, hit, hne, hai⟩ := st
    obtain ⟨xs, hq, hx⟩ := hg
    obtain ⟨its, rv, p, hz⟩ := I.tuple hq
    obtain ⟨f0, f1, f2, f3, f4, f5⟩ := hf it (by simp)
    have hl := rv.length
    have hTy : s.TypeIs (.ref e) "enumerate" := ⟨_, he, rfl⟩
    unfold pyNext
    refine wpAny_bind (wpAny_attempt (wpAny_callSpecial?_slot (name := Str.ofString "__next__") hTy F.slot_enumerate_next
      (wpAny_call_entry F.slot_enumerate_next hTy F.entry_enumerate_next ?_ (F.args_enumerate_next_1 _))))
    show wpAny _ _ (field (.ref e) 2 >>= _) _ _ _
    refine wpAny_bind (wpAny_field he rfl (x := .ref it) rfl ?_)
    refine wpAny_bind (wpAny_nextOf_tuple_end (A := X.A.in1) (I.ok.hd hc) hit p (by simp; omega) fun h' x eb hx' => ?_)
    obtain ⟨o, ho, hcl⟩ := hx'
    refine wpAny_bind (wpAny_isInstance (T := "StopIteration") (b := true) ⟨o, ho, hcl⟩ isSubtype_stop ?_)
    exact wpAny_pure ⟨rfl, I.turned (t' := s.toks) (fun b o hb q => eb b o hb q) f0 f1 f3 f4 f5⟩
  self := fun A i s Q E st h => let ⟨⟨_, he⟩, _⟩ := st; wpAny_pyIter_enum he h
def iEnumT (K : PySem.W.Frag) (ta : TA) : TI := fun σ H R => ta σ H fun vs H1 => ∃ a xs, vs = [.ref a] ∧ SqT K H1 a xs ∧ R (IteT K a) H1
theorem pi_enumT {X : Cx} {e : Expr} {ta : TA} {p pos tpos : Pos} {elts : List Expr} {kk : Nat} (hg : Gl X "enumerate") (hm : X.mg "enumerate" = none) (ha : PA X [e] ta) (hs : starEach [e] X.env = [(false, eval e X.env)] := by rfl) :
    PI X (.Tuple elts kk tpos) (.Call (.Name "enumerate" p) [e] [] pos) (iEnumT X.K ta) := by
  refine ⟨fun pins s σ H R I h => ?_⟩
  refine Call_ (ld_blt I hg hm boot_enumerate (PyProof.Rows.callWith_type1 (thn (ha.run pos pins s σ H _ I h) fun us s1 ⟨vs, H1, I1, r1, q1⟩ => ?_) hs rfl))
  obtain ⟨a, xs, ex, hq, q⟩ := q1
  subst ex
  cases r1 with
  | cons r rr =>
    cases rr
    cases r
    obtain ⟨its, rv, p', hz⟩ := I1.tuple hq
    have hal : a < s1.heap.objs.size := let ⟨_, q, _⟩ := id p'; Heap.lt_size q
    refine call_enumT p' fun h' he hit hsz hk => wpAny_pyIter_enum he ?_
    have I2 : Inv X pins σ H1 { s1 with heap := h' } := I1.kept (t' := s1.toks) hk
    refine ⟨s1.heap.objs.size + 1, [s1.heap.objs.size + 1, s1.heap.objs.size], _, _, H1, rfl, I2, turn_enumT a (s1.heap.objs.size + 1) s1.heap.objs.size, ⟨⟨.none, he⟩, hit, Nat.succ_ne_self _, Nat.ne_of_lt hal⟩, fun b hb => ?_, q⟩
    have e' : b = s1.heap.objs.size + 1 ∨ b = s1.heap.objs.size := by simpa using hb
    have hle : s1.heap.objs.size ≤ b := by
      rcases e' with z | z
      · rw [z]; exact Nat.le_add_right _ _
      · rw [z]; exact Nat.le_refl _
    exact I1.fpOk hle (I1.hok.fresh hle)
end TA
set_option maxHeartbeats 4000000
namespace TA
open PySem PySem.Spec PyProof.Rows L2
/-! ### t[::-1] of a pair -/
section
variable {prog : Program} {w : World} {A : Around} {E : Value → Shared → Prop} {s : Shared}
theorem slice_back {sl : Addr} {vl vu vs : Value} {Q : Int × Int × Nat → Shared → Prop} (hs : s.heap.IsSliceOf sl vl vu vs) (pl : IsPart vl none) (pu : IsPart vu none) (ps : IsPart vs (some (-1)))
    (h : Q (1, -1, 2) s) : wpAny (model prog w) A (Builtin.Slice.sliceApplied (.ref sl) (pure ((2 : Nat) : Int))) Q E s := by
  obtain ⟨os, hos, hcs, hds⟩ := id hs
  unfold Builtin.Slice.sliceApplied Builtin.Slice.sliceFields
  refine wpAny_bind (wpAny_bind (wpAny_field hos hds (x := vl) rfl (wpAny_bind (wpAny_field hos hds (x := vu) rfl (wpAny_bind (wpAny_field hos hds (x := vs) rfl (wpAny_pure ?_)))))))
  refine wpAny_bind (HT.slicePart_ ps ?_)
  show wpAny _ _ (if ((-1 : Int) == 0) = true then _ else _) _ _ s
  rw [if_neg (by decide)]
  refine wpAny_bind (HT.slicePart_ pl (wpAny_bind (HT.slicePart_ pu (wpAny_bind (wpAny_pure ?_)))))
  exact wpAny_pure h
theorem pair_back {t sl : Addr} {u1 u2 vl vu vs : Value} {Q : Value → Shared → Prop} (ht : IsTup s.heap t #[u1, u2]) (hs : s.heap.IsSliceOf sl vl vu vs) (pl : IsPart vl none) (pu : IsPart vu none) (ps : IsPart vs (some (-1)))
    (h : Q (.ref s.heap.objs.size) { s with heap := s.heap.push { cls := .type "tuple", data := .seq #[u2, u1] } }) : wpAny (model prog w) A (getItem (.ref t) (.ref sl)) Q E s := by
  obtain ⟨os, hos, hcs, hds⟩ := id hs
  have hTs : s.TypeIs (.ref sl) "slice" := ⟨os, hos, hcs⟩
  unfold getItem
  try with_reducible refine wpAny_holding ?_
  first | refine wpAny_bind (wpAny_pure ?_) | skip
  refine wpAny_bind (wpAny_sequenceKey ht.typeIs (by decide) ?_)
  refine wpAny_bind (wpAny_callSpecial?_slot (name := Str.ofString "__getitem__") ht.typeIs PyProof.Rows.slot_tuple_getitem
    (wpAny_call_entry PyProof.Rows.slot_tuple_getitem ht.typeIs PyProof.Rows.entry_tuple_getitem ?_ (PyProof.Rows.args_tuple_getitem _ _)))
  show wpAny _ _ (Builtin.Tuple.tupleItemsOf (.ref t) >>= _) _ _ s
  refine wpAny_bind (PyProof.Rows.tupleItemsOf_ ht ?_)
  refine wpAny_bind (wpAny_typeOf hTs ?_)
  rw [if_pos (by decide)]
  refine wpAny_bind (slice_back hs pl pu ps ?_)
  show wpAny _ _ (if ((1 : Int) == 0 && (-1 : Int) == 1 && (2 : Nat) == 2) = true then _ else _) _ _ s
  rw [if_neg (by decide)]
  have htake : sizeOk (.seq (#[u2, u1] : Array Value)) := by
    show 2 ≤ sizeLine
    decide
  have ep : ((List.range 2).filterMap fun (k : Nat) => (#[u1, u2] : Array Value)[((1 : Int) + (k : Int) * -1).toNat]?).toArray = #[u2, u1] := by rfl
  rw [ep]
  first
    | exact wpAny_bind (m := Builtin.Tuple.tupleExact _) (wpAny_newObj_type (wpAny_pure ⟨_, rfl, wpAny_pure h⟩) htake)
    | exact wpAny_bind (m := Builtin.Tuple.tupleExact _) (wpAny_newObj_type (wpAny_bind (wpAny_pure (wpAny_pure ⟨_, rfl, wpAny_pure h⟩))) htake)
    | exact wpAny_bind (wpAny_bind (m := Builtin.Tuple.tupleExact _) (wpAny_newObj_type (wpAny_pure (wpAny_pure ⟨_, rfl, wpAny_pure h⟩)) htake))
    | exact wpAny_bind (wpAny_bind (m := Builtin.Tuple.tupleExact _) (wpAny_newObj_type (wpAny_pure ⟨_, rfl, wpAny_pure h⟩) htake))
end
section
variable {X : Cx}
def tRevP (K : PySem.W.Frag) (te : TE) : TE := fun σ H Q => te σ H fun x H1 => ∃ a y z, x = .ref a ∧ SqT K H1 a [y, z] ∧ ∀ p, H1 p = none → Q (.ref p) (upd H1 p (.tup [z, y]))
theorem pe_revP {e : Expr} {te : TE} {k : Nat} {p1 p2 p3 pos : Pos} (he : PE X e te) : PE X (.Subscript e (.Slice none none (some (.UnaryOp .USub (.Constant (.int 1) k p1) p2)) p3) pos) (tRevP X.K te) := by
  refine ⟨fun pins s σ H Q I h => ?_⟩
  refine Subscript_ (thn (he.run pins s σ H _ I h) fun v s1 ⟨x, H1, I1, r1, q1⟩ => ?_)
  obtain ⟨a, y, z, ex, hx, q⟩ := q1
  subst ex
  cases r1
  have hst : PO X (some (.UnaryOp .USub (.Constant (.int 1) k p1) p2)) (tPart (tUn (rU fun i => .int (-i)) (tC (.int 1)))) := po_some (pe_un un_neg pe_int)
  refine wpAny_Slice (thn (po_none.run pins s1 σ H1 (fun o H2 => o = none ∧ H2 = H1) I1 ⟨rfl, rfl⟩) fun vl s2 ⟨l, H2, I2, pl, el, e2⟩ => ?_)
  subst el e2
  refine thn (po_none.run pins s2 σ H2 (fun o H3 => o = none ∧ H3 = H2) I2 ⟨rfl, rfl⟩) fun vu s3 ⟨u, H3, I3, pu, eu, e3⟩ => ?_
  subst eu e3
  refine thn (hst.run pins s3 σ H3 (fun o H4 => o = some (-1) ∧ H4 = H3) I3 ⟨1, rfl, -1, rfl, rfl, rfl⟩) fun vs s4 ⟨o, H4, I4, ps, eo, e4⟩ => ?_
  subst eo e4
  have I5 : Inv X pins σ H4 { s4 with heap := s4.heap.push { cls := .type "slice", data := .fields #[vl, vu, vs] } } := I4.kept (t' := s4.toks) fun b ob q => Heap.get?_push_of_some _ q
  obtain ⟨its, r, ht, hz⟩ := I5.tuple hx
  obtain ⟨u1, u2, rfl, ra, rb⟩ := vals2 r
  show wpAny (model X.prog X.w) X.A (subscriptTail e (.Slice none none (some (.UnaryOp .USub (.Constant (.int 1) k p1) p2)) p3) (.ref a) (.ref s4.heap.objs.size)) (EP X pins σ Q) X.xe { s4 with heap := s4.heap.push { cls := .type "slice", data := .fields #[vl, vu, vs] } }
  refine tail_any (ops := [.ref a, .ref s4.heap.objs.size]) ht.typeIs (PyProof.Rows.slot_tuple_getitem.lookup) ?_ (by with_unfolding_all rfl)
  refine pair_back ht (Heap.IsSliceOf.new _ vl vu vs) pl pu ps ?_
  exact ⟨.ref _, _, I5.laid (t' := s4.toks) (o := .tup [z, y]) (fun b ob q => Heap.get?_push_of_some _ q) (Nat.le_refl _) ⟨by show 2 ≤ sizeLine; decide, [u2, u1], .cons rb (.cons ra .nil), IsTup.new _ _⟩, rfl, q _ (I5.hok.fresh (Nat.le_refl _))⟩
end
end TA
set_option maxHeartbeats 4000000
namespace TA
open PySem PySem.Spec PyProof.Rows L2
open GxR (TabB TabG Tabbed)
/-! ### a def that makes generator expressions: its code object is known -/
theorem okC {P : Program} {w : World} {K : PySem.W.Frag} {mg : Str → Option Value} {b0 : Heap} {x qu : Str} {st : Stmt} {f c : Addr} {fd : FuncData} {N ps : List Str} {k : Nat} {sp : Sp} (F : Fun K x qu st f fd) (hc : fd.code = .ref c) (S : FnScope N ps (defScope st))
    (len : ∀ vs H Q E, sp vs H Q E → vs.length = ps.length)
    (hb : ∀ (A : Around) (outer : List Env) (s : Shared) (H : Hp) (vs : List V) (Q : VK) (E : XK), Room k (A.deeper (envOfC qu (defScope st) s.heap.objs.size f (.ref c))) → sp vs H Q E →
      ∃ t, PSs (cxOf CX0 P w K mg b0 N qu (defScope st) f (.ref c) A outer s H E).nox (defBody st) t ∧ t { nx := fun _ H' => Q .non H', rt := Q } (start N vs) H) : FnOk P w K mg b0 CX0 (k + 1) f fd ps sp := by
  obtain ⟨oc, od, kV, dc, pm, an, cdv, ct, osl, rfl, lk, hcd⟩ := F.ex
  cases (show cdv = .ref c from hc)
  refine fn_of lk hcd S len fun A outer s H vs Q E hr hsp => ?_
  obtain ⟨t, h, q⟩ := hb A outer s H vs Q E hr hsp
  exact ⟨t, h.nox, q⟩
theorem tabG_keep {H H' : Hp} {P : Addr} (t : TabG H P) (h : ∀ ps, H P = some (.tbl ps) → H' P = some (.tbl ps)) : TabG H' P := by
  obtain ⟨ps, e, r⟩ := t
  exact ⟨ps, h _ e, r⟩
theorem tabG_new {H : Hp} {P p : Addr} {u : HO} (t : TabG H P) (n : H p = none) : TabG (upd H p u) P := by
  refine tabG_keep t fun ps e => ?_
  rw [upd_ne (ne_of_none e n)]
  exact e
end TA
set_option maxHeartbeats 4000000
/-! The end of a law whose defs make generator expressions: their tables of code objects, and no repr is under way. -/
namespace TA
open PySem PySem.Spec PyProof.Rows L2
open GxR (TabB TabG Tabbed)
/-- what may be tracked at the start: the script, and empty tables -/
def Kinds (K : PySem.W.Frag) (cs : List (Addr × Addr)) (a : Addr) (H : Hp) : Prop :=
  ∀ b u, H b = some u → (b = a ∧ K.lookup a = none ∧ ∃ o xs, u = .frz o (.lst xs)) ∨ (u = .tbl #[] ∧ ∃ p ∈ cs, b = p.2)
theorem lawGT {P : Program} {w : World} {K : PySem.W.Frag} {mg mb : Str → Option Value} {k : Nat}
    {fa a : Addr} {cs : List (Addr × Addr)} {fd : FuncData} {x : Str} {sp : Sp} {z : Shared} {vs : List Value} {ns : List Int}
    (KX : K.In z.heap) (hns : z.heap.Ns mainGlobals mg) (hb : z.heap.Ns builtinsNs mb)
    (hbb : ∀ x : Str, x ≠ "__name__" → mb x = bootBuiltins x) (hlim : z.heap.NoLimit) (hg : z.gens = #[])
    (hC : ∀ p ∈ cs, PySem.W.CodeHd z.heap p.1 p.2 ∧ z.heap.get? p.2 = some (PySem.W.tabObj #[])) (nT : ∀ p ∈ cs, K.lookup p.2 = none)
    (hbm : ∃ (bm : Addr) (ob : Obj), mg "__builtins__" = some (.ref bm) ∧ bm ≠ builtinsNs ∧ z.heap.get? bm = some ob ∧ ob.cls = .type "module" ∧ ob.dict = some builtinsNs ∧ ob.data = .plain)
    (ha : z.heap.get? a = some { cls := .type "list", data := .seq vs.toArray }) (hi : IntsAre vs ns)
    (hl : ns.length ≤ sizeLine) (hr : Room k callerA)
    (F : ∀ b0 : Heap, K.In b0 → b0.Ns mainGlobals mg → (∀ p ∈ cs, TabB b0 mg p.1 p.2) → FnG P w K mg b0 CX0 k fa fd [x] sp)
    (hbind : ∀ (s : Shared) (u : Value), BindsTo s fd ⟨[u], []⟩ [(x, u)])
    (hsp : ∀ H : Hp, (∀ p ∈ cs, TabG H p.2) → SqL K H a (ns.map V.int) → sp [.ref a] H (fun v _ => v = .bl true) fun _ _ _ => False) :
    codeAny (model P w) callerA (.call (.ref fa) ⟨[.ref a], []⟩)
      (fun r s' => r = .ok (.ret (.bool true)) ∧ OldK z.heap s'.heap ∧ s'.os = z.os ∧ AllBare s'.gens) z := by
  have rv := vals_ints hi
  have lenV := hi.length
  have core : ∀ H : Hp, (∀ p ∈ cs, H p.2 = some (.tbl #[])) → SqL K H a (ns.map V.int) → HOk P w H z.heap → Kinds K cs a H → codeAny (model P w) callerA (.call (.ref fa) ⟨[.ref a], []⟩)
        (fun r s' => r = .ok (.ret (.bool true)) ∧ OldK z.heap s'.heap ∧ s'.os = z.os ∧ AllBare s'.gens) z := by
    intro H hH hS hok kinds
    have hT : ∀ p ∈ cs, TabG H p.2 := fun p hp => ⟨#[], hH p hp, True.intro⟩
    -- what is neither a list nor an empty table is not tracked
    have notr : ∀ {b : Addr} {o : Obj}, z.heap.get? b = some o → (∀ us n, o.data ≠ .seq us n) → o.data ≠ .fields #[] → H b = none := fun {b o} e h1 h2 => by
      cases q : H b with
      | none => rfl
      | some u =>
        rcases kinds b u q with ⟨rfl, _⟩ | ⟨_, p, hp, rfl⟩
        · rw [ha] at e
          cases e
          exact absurd rfl (h1 _ _)
        · rw [(hC p hp).2] at e
          cases e
          exact absurd rfl h2
    have dictK : ∀ {b : Addr} {o : Obj} {es : Array DictEntry} {ep : Nat}, z.heap.get? b = some o → o.data = .dict es ep → H b = none := fun {b o es ep} e d =>
      notr e (fun us n m => by rw [d] at m; cases m) (fun m => by rw [d] at m; cases m)
    have nsK : ∀ {b : Addr} {m : Str → Option Value}, z.heap.Ns b m → (hidT z.heap H).Ns b m :=
      fun {b m} ⟨o, es, ep, e, d, r⟩ => ⟨o, es, ep, hidT_get e (dictK e d), d, r⟩
    have hKb : K.In (hidT z.heap H) := fun b o e => hidT_get (KX b o e) (by
      cases q : H b with
      | none => rfl
      | some u =>
        rcases kinds b u q with ⟨rfl, m, _⟩ | ⟨_, p, hp, rfl⟩
        · rw [m] at e; cases e
        · rw [nT p hp] at e; cases e)
    have hM : Mod K mg (hidT z.heap H) :=
      ⟨hKb, nsK hns, ⟨mb, nsK hb, hbb⟩, let ⟨mc, h1, h2⟩ := hlim; ⟨mc, nsK h1, h2⟩⟩
    have TB : ∀ p ∈ cs, TabB (hidT z.heap H) mg p.1 p.2 := fun p hp => by
      obtain ⟨C, hTp⟩ := hC p hp
      refine ⟨?_, ?_, fun m => ?_⟩
      · obtain ⟨o, us, f1, f2, f3, f4, f5, f6, f7, e1, e2, e3, r⟩ := C
        refine ⟨o, us, f1, f2, f3, f4, f5, f6, f7, hidT_get e1 (notr e1 (fun us n m => by rw [e3] at m; cases m) (fun m => ?_)), e2, e3, r⟩
        rw [e3] at m
        cases m
        simp at r
      · obtain ⟨bm, ob, b1, b2, b3, b4, b5, b6⟩ := hbm
        refine ⟨bm, ob, b1, b2, fun q => ?_, fun q => ?_, hidT_get b3 (notr b3 (fun us n m => by rw [b6] at m; cases m) (fun m => by rw [b6] at m; cases m)), b4, b5, b6⟩
        · obtain ⟨o, es, ep, e, hd, _⟩ := hns
          rw [q, e] at b3
          cases b3
          rw [hd] at b6
          cases b6
        · rw [q, hTp] at b3
          cases b3
          cases b6
      · obtain ⟨o, es, ep, e, hd, _⟩ := hns
        rw [m, hTp] at e
        cases e
        cases hd
    have e0 : Env0 P w K mg (hidT z.heap H) callerA [] z H :=
      ⟨rfl, hM, fun b o e => of_hidT e, Nat.le_of_eq (hidT_size _ _), trivial,
        fun b h => absurd (show b ∈ ([] : List Addr) from h) (List.not_mem_nil), hok, .of_eq hg⟩
    refine codeAny_mono ((F _ hKb (nsK hns) TB).run callerA [] z H ⟨[.ref a], []⟩ [.ref a] [.ref a] _ _ rfl hr e0
      (hbind z (.ref a)) (.cons rfl .nil) (hsp H hT hS)) fun r s' h => ?_
    match r, h with
    | .error e, h => exact False.elim h
    | .ok .next, h => exact False.elim h
    | .ok .brk, h => exact False.elim h
    | .ok .cont, h => exact False.elim h
    | .ok (.ret u), ⟨v, H', os, bare, un, hok', r', q⟩ =>
      have qv : v = .bl true := q
      subst qv
      obtain rfl : u = Value.bool true := r'
      have grown : ∀ p ∈ cs, ∃ more : Array Value, s'.heap.get? p.2 = some { cls := .none, data := .fields more } := fun p hp => by
        obtain ⟨more, m⟩ := un.tbls p.2 #[] (hH p hp)
        exact ⟨_, hok' p.2 _ m⟩
      have keep : ∀ b o, z.heap.get? b = some o → (s'.heap.get? b = some o) ∨ ∃ p ∈ cs, b = p.2 := fun b o e => by
        cases q : H b with
        | none => exact .inl (un.keep b o e q (fun m => absurd (show b ∈ ([] : List Addr) from m) List.not_mem_nil) (by simp))
        | some u =>
          rcases kinds b u q with ⟨_, _, o1, xs, m⟩ | ⟨_, p, hp, m⟩
          · rw [m] at q
            have e1 := (hok b _ q).1
            rw [e] at e1
            cases e1
            exact .inl (hok' b _ (un.frzs b _ _ q)).1
          · exact .inr ⟨p, hp, m⟩
      refine ⟨rfl, ⟨fun b o e => ?_, fun b o e => ?_⟩, os, bare⟩
      · rcases keep b o e with m | ⟨p, hp, rfl⟩
        · exact .inl m
        · obtain ⟨more, hm⟩ := grown p hp
          obtain ⟨C, hTp⟩ := hC p hp
          rw [hTp] at e
          cases e
          exact .inr (.inl ⟨(C.tab hTp).isCodeTable, rfl, #[], more, rfl, by rw [Array.empty_append]; exact hm⟩)
      · rcases keep b o e with m | ⟨p, hp, rfl⟩
        · exact ⟨o, m⟩
        · obtain ⟨more, hm⟩ := grown p hp
          exact ⟨_, hm⟩
  have aT : ∀ p ∈ cs, p.2 ≠ a := fun p hp e => by
    have q := (hC p hp).2
    rw [e, ha] at q
    cases (congrArg Obj.data (Option.some.inj q) : Data.seq vs.toArray _ = Data.fields #[])
  have isC : ∀ b, Decidable (∃ p ∈ cs, b = p.2) := fun b => Classical.propDecidable _
  let tb : Hp := fun b => @ite _ (∃ p ∈ cs, b = p.2) (isC b) (some (.tbl #[])) none
  have tb1 : ∀ p ∈ cs, tb p.2 = some (.tbl #[]) := fun p hp => if_pos ⟨p, hp, rfl⟩
  have tb2 : ∀ b u, tb b = some u → u = .tbl #[] ∧ ∃ p ∈ cs, b = p.2 := fun b u m => by
    by_cases h : ∃ p ∈ cs, b = p.2
    · cases (if_pos h).symm.trans m
      exact ⟨rfl, h⟩
    · cases (if_neg h).symm.trans m
  have okT : ∀ b, (∃ p ∈ cs, b = p.2) → z.heap.get? b = some { cls := .none, data := .fields #[] } := fun b ⟨p, hp, e⟩ => by rw [e]; exact (hC p hp).2
  cases hk : K.lookup a with
  | some o =>
    have e := KX a o hk
    rw [ha] at e
    cases e
    refine core tb tb1 (.inr ⟨_, vs.toArray, _, hk, rfl, rfl, rfl, by rw [List.size_toArray, lenV]; exact hl, by simpa using rv⟩) (fun b u m => ?_) (fun b u m => .inr (tb2 b u m))
    obtain ⟨e, h⟩ := tb2 b u m
    rw [e]
    exact okT b h
  | none =>
    refine core (fun b => if b = a then some (.frz { cls := .type "list", data := .seq vs.toArray } (.lst (ns.map V.int))) else tb b)
      (fun p hp => (if_neg (aT p hp)).trans (tb1 p hp)) (.inl (.inr ⟨{ cls := .type "list", data := .seq vs.toArray }, if_pos rfl⟩)) (fun b u m => ?_) (fun b u m => ?_)
    · by_cases h : b = a
      · cases (if_pos h).symm.trans m
        subst h
        exact ⟨ha, by rw [List.length_map]; exact hl, vs, _, rv, ha⟩
      · obtain ⟨e, h'⟩ := tb2 b u ((if_neg h).symm.trans m)
        rw [e]
        exact okT b h'
    · by_cases h : b = a
      · cases (if_pos h).symm.trans m
        exact .inl ⟨h, hk, _, _, rfl⟩
      · exact .inr (tb2 b u ((if_neg h).symm.trans m))
/-- the end: nms, the defs that make generator expressions; cs, their code objects and tables -/
theorem walkGT {l : PySem.W.OpenLaw} {n k : Nat} {q : Program} {loose : List Str}
    {XP : (Str → Option Value) → Heap → Prop} {YP : World → Heap → Prop} {d : DefRec} {K : Params → PySem.W.Frag}
    {x : Str} (nms : List Str) (hn : l.most = some n) (hn2 : n ≤ sizeLine) (hdf : d.params.defaults = [])
    (hr : Room k callerA) (hrec : ∀ nm ∈ nms, ∃ dm, (recsOf q).find? (fun e => e.name == nm) = some dm) (hY : ∀ (w : World) (h : Heap), YP w h → (K w.params).In h)
    (F : ∀ (w : World) (mg : Str → Option Value) (fa : Addr) (h : Heap), (K w.params).In h → h.Ns mainGlobals mg →
      mg d.name = some (.ref fa) → ∃ (fd : FuncData) (cs : List (Addr × Addr)) (sp : Sp), (∀ p ∈ cs, ∃ nm ∈ nms, PySem.W.tabIn (K w.params) nm = some p) ∧ (∀ p ∈ cs, (K w.params).lookup p.2 = none) ∧
        (∀ (s : Shared) (u : Value), BindsTo s fd ⟨[u], []⟩ [(x, u)]) ∧
        (∀ (H : Hp) (a : Addr) (ns : List Int), ns.length ≤ n → (∀ p ∈ cs, TabG H p.2) → SqL (K w.params) H a (ns.map V.int) → sp [.ref a] H (fun v _ => v = .bl true) fun _ _ _ => False) ∧
        ∀ b0 : Heap, (K w.params).In b0 → b0.Ns mainGlobals mg → (∀ p ∈ cs, TabB b0 mg p.1 p.2) → FnG l.prog w (K w.params) mg b0 CX0 k fa fd [x] sp) :
    PySem.W.WalkO q loose XP YP l.row.toRowW d [] (fun f vs => PySem.call f vs) := by
  refine Att.attach_call hn hdf fun w _ z mg mb fa o pm cd dc a vs ns G Y _ _ _ hmg ho hi hlen hg => ?_
  have KX := hY w _ Y
  obtain ⟨fd, cs, sp, ht, nT, hb, hsp, hF⟩ := F w mg fa _ KX G.T.g hmg
  refine lawGT KX G.T.g G.T.b G.T.builtins G.T.nolimit hg (fun p hp => ?_) nT G.T.bmain ho hi (Nat.le_trans hlen hn2) hr hF hb (fun H hT hS => hsp H a ns hlen hT hS)
  obtain ⟨nm, hnm, e⟩ := ht p hp
  obtain ⟨dm, hdm⟩ := hrec nm hnm
  exact PySem.W.tab_of G.T KX hdm e
end TA
set_option maxHeartbeats 4000000
/-! list.count of flat values. -/
namespace TA
open PySem PySem.Spec PyProof.Rows L2
theorem count_eqU {x : V} : ∀ {xs : List V} {us : List Value}, Vals xs us → xs.all flatV = true → us.countP (eqU x) = xs.countP fun y => eqV y x
  | _, _, .nil, _ => rfl
  | y :: xs, u :: us, .cons r t, f => by
    obtain ⟨f1, f2⟩ := Bool.and_eq_true_iff.mp (show (flatV y && xs.all flatV) = true from f)
    rw [List.countP_cons, List.countP_cons, count_eqU t f2, eqU_of r f1]
section
variable {X : Cx}
def rCntV (K : PySem.W.Frag) : V → List V → Hp → VK → Prop := fun x xs H Q => ∃ (p : Addr) (ys : List V) (y : V), x = .ref p ∧ xs = [y] ∧ SqL K H p ys ∧ flatV y = true ∧ ys.all flatV = true ∧ Q (.int ((ys.countP fun z => eqV z y : Nat) : Int)) H
theorem mt_countV : MtR X "list.count" (rCntV X.K) := by
  intro pins s σ H x xs v us Q I rx rxs h
  obtain ⟨p, ys, y, rfl, rfl, hs, fy, fys, q⟩ := h
  cases rx
  obtain ⟨u, rfl, ru⟩ := rxs.one
  obtain ⟨its, rv, ⟨⟨cls, dd, data, sl⟩, n, ho, hc, hdn, hd⟩, hlen⟩ := I.list hs
  dsimp only at hc hd
  subst hc hd
  refine call_meets PySem.F.slot_list_count ⟨_, ho, rfl⟩ PySem.F.entry_list_count (PySem.F.args_list_count_2 _ _)
    (SeqAt.list_countAt p its.toArray n dd sl u (eqU y)) ⟨ho, fun z hz => mem_eqAt ru fy rv fys z (by simpa using hz), ?_⟩
  refine ⟨.int ((ys.countP fun z => eqV z y : Nat) : Int), H, I.tok _, ⟨s.toks, ?_⟩, q⟩
  show Value.int ((its.toArray.toList.countP (eqU y) : Nat) : Int) s.toks = _
  rw [List.toList_toArray, count_eqU rv fys]
end
end TA
set_option maxHeartbeats 4000000
/-! The value layer: what a def does, said of values alone. D: a value with all that hangs on it; who owns the lists in it (modes, kinds). -/
namespace VL
open PySem PySem.Spec PyProof.Rows L2
open GxR (TabB TabG Tabbed)
/-- a truth that is not looked into -/
theorem sl_ex : ∃ f : Bool → Bool, ∀ b, f b = b := ⟨fun b => b, fun _ => rfl⟩
noncomputable def sl : Bool → Bool := Classical.choose sl_ex
theorem sl_eq (b : Bool) : sl b = b := Classical.choose_spec sl_ex b
theorem sl_iff {p : Prop} {i : Decidable p} : sl (decide p) = true ↔ p := by rw [sl_eq, decide_eq_true_iff]
inductive D where
  | non | bl (b : Bool) | int (i : Int) | str (s : Str)
  | tup (ds : List D) | lst (ds : List D) | dct (ks : List Key) (ds : List D) | obj (c : Nat) (ns : List Str) (ds : List D)
  | scr (ns : List Int)
/-- what is fixed through a law -/
structure Gb where
  K : PySem.W.Frag
  tabs : List Addr
  cls : Nat → Addr
/-- the script: known, never written -/
def ScrAt (K : PySem.W.Frag) (H : Hp) (a : Addr) (xs : List V) : Prop :=
  (∃ o, H a = some (.frz o (.lst xs))) ∨
    ∃ (o : Obj) (its : Array Value) (n : Nat), K.lookup a = some o ∧ o.cls = .type "list" ∧ o.dict = none ∧ o.data = .seq its n ∧ its.size ≤ sizeLine ∧ Vals xs its.toList
theorem ScrAt.sql {K : PySem.W.Frag} {H : Hp} {a : Addr} {xs : List V} (h : ScrAt K H a xs) : SqL K H a xs := by
  rcases h with ⟨o, h⟩ | h
  · exact .inl (.inr ⟨o, h⟩)
  · exact .inr h
mutual
/-- d is to be read at v, its lists, dicts, objects stand at F -/
def Rds (G : Gb) (H : Hp) : D → V → List Addr → Prop
  | .non, v, F => v = .non ∧ F = []
  | .bl b, v, F => v = .bl b ∧ F = []
  | .int i, v, F => v = .int i ∧ F = []
  | .str s, v, F => v = .str s ∧ F = []
  | .tup ds, v, F => ∃ a xs, v = .ref a ∧ SqT G.K H a xs ∧ RdsL G H ds xs F
  | .lst ds, v, F => ∃ a xs A, v = .ref a ∧ H a = some (.lst xs) ∧ RdsL G H ds xs A ∧ F = a :: A
  | .dct ks ds, v, F => ∃ a us A, v = .ref a ∧ H a = some (.dK us) ∧ (us.map (·.1) = ks ∧ ks.Nodup) ∧ RdsL G H ds (us.map (·.2)) A ∧ F = a :: A
  | .obj c ns ds, v, F => ∃ a dx us A, v = .ref a ∧ H a = some (.ins (G.cls c) dx us) ∧ us.map (·.1) = ns ∧ RdsL G H ds (us.map (·.2)) A ∧ F = a :: A
  | .scr ns, v, F => ∃ a, v = .ref a ∧ ScrAt G.K H a (ns.map V.int) ∧ F = []
def RdsL (G : Gb) (H : Hp) : List D → List V → List Addr → Prop
  | [], xs, F => xs = [] ∧ F = []
  | d :: ds, xs, F => ∃ x r A B, xs = x :: r ∧ F = A ++ B ∧ Rds G H d x A ∧ RdsL G H ds r B
end
/-- what can be written -/
def MutO : HO → Bool
  | .lst _ => true
  | .dK _ => true
  | .ins _ _ _ => true
  | _ => false
/-- H' is H grown; M: where it may have been written; a table of code objects may have grown -/
def Chg (M : Addr → Prop) (H H' : Hp) : Prop := ∀ q o, H q = some o →
  H' q = some o ∨ ((∃ ps, o = .tbl ps) ∧ TabG H' q) ∨ (M q ∧ MutO o = true ∧ ∃ o', H' q = some o' ∧ MutO o' = true)
def No : Addr → Prop := fun _ => False
theorem Chg.refl (M : Addr → Prop) (H : Hp) : Chg M H H := fun _ _ e => .inl e
theorem Chg.there {M : Addr → Prop} {H H' : Hp} (c : Chg M H H') {q : Addr} {o : HO} (e : H q = some o) : ∃ o', H' q = some o' := by
  rcases c q o e with h | ⟨_, ps, h, _⟩ | ⟨_, _, o', h, _⟩
  · exact ⟨_, h⟩
  · exact ⟨_, h⟩
  · exact ⟨_, h⟩
theorem Chg.back {M : Addr → Prop} {H H' : Hp} (c : Chg M H H') {q : Addr} (e : H' q = none) : H q = none := by
  cases h : H q with
  | none => rfl
  | some o =>
    obtain ⟨o', h'⟩ := c.there h
    rw [e] at h'
    cases h'
theorem Chg.tab {M : Addr → Prop} {H H' : Hp} (c : Chg M H H') {q : Addr} (t : TabG H q) : TabG H' q := by
  obtain ⟨ps, e, r⟩ := t
  rcases c q _ e with h | ⟨_, h⟩ | ⟨_, h, _⟩
  · exact ⟨ps, h, r⟩
  · exact h
  · cases h
theorem Chg.trans {M M' : Addr → Prop} {H H1 H2 : Hp} (a : Chg M H H1) (b : Chg M' H1 H2) : Chg (fun q => M q ∨ M' q) H H2 := fun q o e => by
  rcases a q o e with h | ⟨⟨ps, rfl⟩, h⟩ | ⟨h1, h2, o', h3, h4⟩
  · rcases b q o h with h | h | ⟨h5, h6⟩
    · exact .inl h
    · exact .inr (.inl h)
    · exact .inr (.inr ⟨.inr h5, h6⟩)
  · exact .inr (.inl ⟨⟨ps, rfl⟩, b.tab h⟩)
  · rcases b q o' h3 with h | ⟨⟨ps, e⟩, _⟩ | ⟨_, _, o2, h5, h6⟩
    · exact .inr (.inr ⟨.inl h1, h2, o', h, h4⟩)
    · rw [e] at h4
      cases h4
    · exact .inr (.inr ⟨.inl h1, h2, o2, h5, h6⟩)
theorem Chg.mono {M M' : Addr → Prop} {H H' : Hp} (a : Chg M H H') (h : ∀ q o, H q = some o → M q → M' q) : Chg M' H H' := fun q o e => by
  rcases a q o e with h' | h' | ⟨h1, h2⟩
  · exact .inl h'
  · exact .inr (.inl h')
  · exact .inr (.inr ⟨h q o e h1, h2⟩)
theorem Chg.new {M : Addr → Prop} {H : Hp} {p : Addr} {u : HO} (n : H p = none) : Chg M H (upd H p u) := fun q o e => .inl (by rw [upd_ne (ne_of_none e n)]; exact e)
theorem Chg.put {H : Hp} {p : Addr} {o u : HO} (e : H p = some o) (m : MutO o = true) (m' : MutO u = true) : Chg (fun q => q = p) H (upd H p u) := fun q o' e' => by
  by_cases h : q = p
  · subst h
    rw [e] at e'
    cases e'
    exact .inr (.inr ⟨rfl, m, u, upd_same, m'⟩)
  · exact .inl (by rw [upd_ne h]; exact e')
theorem Chg.tabbed {P : Addr} {H H' : Hp} {M : Addr → Prop} (t : TabG H P) (h : Tabbed P H H') : Chg M H H' := fun q o e => by
  by_cases hq : q = P
  · subst hq
    obtain ⟨ps, e', _⟩ := t
    rw [e] at e'
    cases e'
    exact .inr (.inl ⟨⟨ps, rfl⟩, h.1⟩)
  · exact .inl (by rw [h.2 q hq]; exact e)
section
variable {G : Gb} {H H' : Hp} {M : Addr → Prop}
theorem SqT.chg {K : PySem.W.Frag} (c : Chg M H H') {a : Addr} {xs : List V} (h : SqT K H a xs) : SqT K H' a xs := by
  rcases h with (h | ⟨o, h⟩) | h
  · rcases c a _ h with h' | ⟨⟨ps, z⟩, _⟩ | ⟨_, z, _⟩
    · exact .inl (.inl h')
    · cases z
    · cases z
  · rcases c a _ h with h' | ⟨⟨ps, z⟩, _⟩ | ⟨_, z, _⟩
    · exact .inl (.inr ⟨o, h'⟩)
    · cases z
    · cases z
  · exact .inr h
theorem ScrAt.chg {K : PySem.W.Frag} (c : Chg M H H') {a : Addr} {xs : List V} (h : ScrAt K H a xs) : ScrAt K H' a xs := by
  rcases h with ⟨o, h⟩ | h
  · rcases c a _ h with h' | ⟨⟨ps, z⟩, _⟩ | ⟨_, z, _⟩
    · exact .inl ⟨o, h'⟩
    · cases z
    · cases z
  · exact .inr h
theorem Chg.keep (c : Chg M H H') {q : Addr} {o : HO} (e : H q = some o) (m : MutO o = true) (n : ¬ M q) : H' q = some o := by
  rcases c q o e with h | ⟨⟨ps, z⟩, _⟩ | ⟨z, _⟩
  · exact h
  · rw [z] at m
    cases m
  · exact absurd z n
mutual
theorem Rds.chg (c : Chg M H H') : ∀ (d : D) (v : V) (F : List Addr), (∀ a ∈ F, ¬ M a) → Rds G H d v F → Rds G H' d v F
  | .non, _, _, _, h => by unfold Rds at h ⊢; exact h
  | .bl _, _, _, _, h => by unfold Rds at h ⊢; exact h
  | .int _, _, _, _, h => by unfold Rds at h ⊢; exact h
  | .str _, _, _, _, h => by unfold Rds at h ⊢; exact h
  | .tup ds, v, F, n, h => by
    unfold Rds at h ⊢
    obtain ⟨a, xs, h1, h2, h3⟩ := h
    exact ⟨a, xs, h1, SqT.chg c h2, RdsL.chg c ds xs F n h3⟩
  | .lst ds, v, F, n, h => by
    unfold Rds at h ⊢
    obtain ⟨a, xs, A, h1, h2, h3, rfl⟩ := h
    exact ⟨a, xs, A, h1, c.keep h2 rfl (n a List.mem_cons_self), RdsL.chg c ds xs A (fun b hb => n b (List.mem_cons_of_mem _ hb)) h3, rfl⟩
  | .dct ks ds, v, F, n, h => by
    unfold Rds at h ⊢
    obtain ⟨a, us, A, h1, h2, h3, h4, rfl⟩ := h
    exact ⟨a, us, A, h1, c.keep h2 rfl (n a List.mem_cons_self), h3, RdsL.chg c ds _ A (fun b hb => n b (List.mem_cons_of_mem _ hb)) h4, rfl⟩
  | .obj k ns ds, v, F, n, h => by
    unfold Rds at h ⊢
    obtain ⟨a, dx, us, A, h1, h2, h3, h4, rfl⟩ := h
    exact ⟨a, dx, us, A, h1, c.keep h2 rfl (n a List.mem_cons_self), h3, RdsL.chg c ds _ A (fun b hb => n b (List.mem_cons_of_mem _ hb)) h4, rfl⟩
  | .scr ns, v, F, n, h => by
    unfold Rds at h ⊢
    obtain ⟨a, h1, h2, h3⟩ := h
    exact ⟨a, h1, ScrAt.chg c h2, h3⟩
theorem RdsL.chg (c : Chg M H H') : ∀ (ds : List D) (vs : List V) (F : List Addr), (∀ a ∈ F, ¬ M a) → RdsL G H ds vs F → RdsL G H' ds vs F
  | [], _, _, _, h => by unfold RdsL at h ⊢; exact h
  | d :: ds, vs, F, n, h => by
    unfold RdsL at h ⊢
    obtain ⟨x, r, A, B, h1, rfl, h3, h4⟩ := h
    exact ⟨x, r, A, B, h1, rfl, Rds.chg c d x A (fun a ha => n a (List.mem_append_left _ ha)) h3, RdsL.chg c ds r B (fun a ha => n a (List.mem_append_right _ ha)) h4⟩
end
mutual
theorem Rds.trk : ∀ (d : D) (v : V) (F : List Addr), Rds G H d v F → ∀ a ∈ F, ∃ o, H a = some o ∧ MutO o = true
  | .non, _, _, h, a, ha => by unfold Rds at h; rw [h.2] at ha; cases ha
  | .bl _, _, _, h, a, ha => by unfold Rds at h; rw [h.2] at ha; cases ha
  | .int _, _, _, h, a, ha => by unfold Rds at h; rw [h.2] at ha; cases ha
  | .str _, _, _, h, a, ha => by unfold Rds at h; rw [h.2] at ha; cases ha
  | .tup ds, v, F, h, a, ha => by
    unfold Rds at h
    obtain ⟨_, xs, h1, h2, h3⟩ := h
    exact RdsL.trk ds xs F h3 a ha
  | .lst ds, v, F, h, a, ha => by
    unfold Rds at h
    obtain ⟨b, xs, A, h1, h2, h3, rfl⟩ := h
    rcases List.mem_cons.mp ha with rfl | ha
    · exact ⟨_, h2, rfl⟩
    · exact RdsL.trk ds xs A h3 a ha
  | .dct ks ds, v, F, h, a, ha => by
    unfold Rds at h
    obtain ⟨b, us, A, h1, h2, h3, h4, rfl⟩ := h
    rcases List.mem_cons.mp ha with rfl | ha
    · exact ⟨_, h2, rfl⟩
    · exact RdsL.trk ds _ A h4 a ha
  | .obj k ns ds, v, F, h, a, ha => by
    unfold Rds at h
    obtain ⟨b, dx, us, A, h1, h2, h3, h4, rfl⟩ := h
    rcases List.mem_cons.mp ha with rfl | ha
    · exact ⟨_, h2, rfl⟩
    · exact RdsL.trk ds _ A h4 a ha
  | .scr ns, v, F, h, a, ha => by
    unfold Rds at h
    obtain ⟨_, h1, h2, h3⟩ := h
    rw [h3] at ha
    cases ha
theorem RdsL.trk : ∀ (ds : List D) (vs : List V) (F : List Addr), RdsL G H ds vs F → ∀ a ∈ F, ∃ o, H a = some o ∧ MutO o = true
  | [], _, _, h, a, ha => by unfold RdsL at h; rw [h.2] at ha; cases ha
  | d :: ds, vs, F, h, a, ha => by
    unfold RdsL at h
    obtain ⟨x, r, A, B, h1, rfl, h3, h4⟩ := h
    rcases List.mem_append.mp ha with ha | ha
    · exact Rds.trk d x A h3 a ha
    · exact RdsL.trk ds r B h4 a ha
end
mutual
/-- no list, no dict, no object in it -/
def D.atom : D → Bool
  | .tup ds => D.atomL ds
  | .lst _ => false
  | .dct _ _ => false
  | .obj _ _ _ => false
  | _ => true
def D.atomL : List D → Bool
  | [] => true
  | d :: ds => d.atom && D.atomL ds
end
mutual
theorem Rds.atom : ∀ (d : D) (v : V) (F : List Addr), d.atom = true → Rds G H d v F → F = []
  | .non, _, _, _, h => by unfold Rds at h; exact h.2
  | .bl _, _, _, _, h => by unfold Rds at h; exact h.2
  | .int _, _, _, _, h => by unfold Rds at h; exact h.2
  | .str _, _, _, _, h => by unfold Rds at h; exact h.2
  | .tup ds, v, F, a, h => by
    unfold Rds at h
    obtain ⟨_, xs, h1, h2, h3⟩ := h
    exact RdsL.atom ds xs F (by unfold D.atom at a; exact a) h3
  | .lst _, _, _, a, _ => by unfold D.atom at a; cases a
  | .dct _ _, _, _, a, _ => by unfold D.atom at a; cases a
  | .obj _ _ _, _, _, a, _ => by unfold D.atom at a; cases a
  | .scr _, _, _, _, h => by unfold Rds at h; obtain ⟨_, _, _, h⟩ := h; exact h
theorem RdsL.atom : ∀ (ds : List D) (vs : List V) (F : List Addr), D.atomL ds = true → RdsL G H ds vs F → F = []
  | [], _, _, _, h => by unfold RdsL at h; exact h.2
  | d :: ds, vs, F, a, h => by
    unfold RdsL at h
    unfold D.atomL at a
    rw [Bool.and_eq_true] at a
    obtain ⟨x, r, A, B, h1, rfl, h3, h4⟩ := h
    rw [Rds.atom d x A a.1 h3, RdsL.atom ds r B a.2 h4]
    rfl
end
end
/-! ### slots -/
inductive Mode where
  /-- read only, perhaps older than the call; read only, made in the call; owned, made in the call; owned, handed in to be written -/
  | arg | shr | own | io
  deriving DecidableEq
def Mode.w : Mode → Bool
  | .own => true
  | .io => true
  | _ => false
def Mode.new : Mode → Bool
  | .own => true
  | .shr => true
  | _ => false
abbrev Env := List (Option (Mode × D))
/-- H0: the heap at the call; Z: what was handed in to be written; T: what stands as in HT meanwhile; iov: the values handed in -/
structure Ctx where
  H0 : Hp
  Z : Nat → Addr → Prop
  T : Addr → Prop
  HT : Hp
  iov : Nat → V
structure Rel (G : Gb) (C : Ctx) (H : Hp) (σ : L2.St) (E : Env) (Fs : Nat → List Addr) : Prop where
  len : E.length = σ.length
  rd : ∀ i m d, E[i]? = some (some (m, d)) → ∃ v, σ[i]? = some (some v) ∧ Rds G H d v (Fs i) ∧ (m = .io → v = C.iov i)
  nd : ∀ i m d, E[i]? = some (some (m, d)) → m.w = true → (Fs i).Nodup ∧ (∀ a ∈ Fs i, ¬ C.T a) ∧ ∀ j m' d', j ≠ i → E[j]? = some (some (m', d')) → ∀ a ∈ Fs i, a ∉ Fs j
  nw : ∀ i m d, E[i]? = some (some (m, d)) → (m.new = true → ∀ a ∈ Fs i, C.H0 a = none) ∧ (m = .io → ∀ a ∈ Fs i, C.Z i a ∨ C.H0 a = none)
  fr : Chg (fun q => ∃ i, C.Z i q) C.H0 H
  pr : Chg (fun q => ¬ C.T q) C.HT H
  pt : ∀ q, C.T q → ∃ o, C.HT q = some o ∧ MutO o = true
  tb : ∀ T ∈ G.tabs, TabG H T
/-- whose what an expression gives is: its own, a part of slot i, its top its own and the rest of slots S, of slots S, the slot's own value -/
inductive Kind where
  | own | sub (i : Nat) | top (S : List Nat) | vw (S : List Nat) | ref (i : Nat)
  deriving DecidableEq
def Kind.S : Kind → List Nat
  | .own => []
  | .sub i => [i]
  | .top S => S
  | .vw S => S
  | .ref i => [i]
def Asg (E : Env) (i : Nat) : Prop := ∃ m d, E[i]? = some (some (m, d))
/-- in none of the slots, and new -/
def Loose (H : Hp) (E : Env) (Fs : Nat → List Addr) (a : Addr) : Prop := H a = none ∧ ∀ i, Asg E i → a ∉ Fs i
def Vw (H : Hp) (E : Env) (Fs : Nat → List Addr) (S : List Nat) (F : List Addr) : Prop := ∀ a ∈ F, (∃ i ∈ S, Asg E i ∧ a ∈ Fs i) ∨ Loose H E Fs a
def D.node : D → Bool
  | .lst _ => true
  | .dct _ _ => true
  | .obj _ _ _ => true
  | _ => false
def KOk (σ : L2.St) (H : Hp) (E : Env) (Fs : Nat → List Addr) (k : Kind) (d : D) (v : V) (F : List Addr) : Prop :=
  match k with
  | .own => F.Nodup ∧ Vw H E Fs [] F
  | .sub i => Asg E i ∧ F.Sublist (Fs i)
  | .top S => Vw H E Fs S F ∧ ∀ a r, d.node = true → F = a :: r → Loose H E Fs a
  | .vw S => Vw H E Fs S F
  | .ref i => ∃ m, E[i]? = some (some (m, d)) ∧ σ[i]? = some (some v) ∧ F = Fs i
theorem KOk.vw {σ : L2.St} {v : V} {H : Hp} {E : Env} {Fs : Nat → List Addr} {k : Kind} {d : D} {F : List Addr} (h : KOk σ H E Fs k d v F) : Vw H E Fs k.S F := by
  cases k with
  | own => exact h.2
  | sub i => exact fun a ha => .inl ⟨i, List.mem_singleton.mpr rfl, h.1, h.2.subset ha⟩
  | top S => exact h.1
  | vw S => exact h
  | ref i =>
    obtain ⟨m, e, _, rfl⟩ := h
    exact fun a ha => .inl ⟨i, List.mem_singleton.mpr rfl, ⟨m, d, e⟩, ha⟩
/-- what a step may do: slots M are written -/
structure Stp (M : List Nat) (H H' : Hp) (E E' : Env) (Fs Fs' : Nat → List Addr) : Prop where
  chg : Chg (fun q => ∃ i ∈ M, ∃ m d, E[i]? = some (some (m, d)) ∧ m.w = true ∧ q ∈ Fs i) H H'
  fs : ∀ i, i ∉ M → Fs' i = Fs i
  gr : ∀ i : Nat, ∀ a ∈ Fs' i, a ∈ Fs i ∨ H a = none
  env : ∀ i : Nat, i ∉ M → E'[i]? = E[i]?
  md : ∀ i : Nat, (∀ m d, E[i]? = some (some (m, d)) → ∃ d', E'[i]? = some (some (m, d'))) ∧ (∀ m d, E'[i]? = some (some (m, d)) → ∃ d', E[i]? = some (some (m, d')))
theorem Stp.refl {M : List Nat} {H : Hp} {E : Env} {Fs : Nat → List Addr} : Stp M H H E E Fs Fs :=
  ⟨Chg.refl _ _, fun _ _ => rfl, fun _ _ h => .inl h, fun _ _ => rfl, fun _ => ⟨fun _ d e => ⟨d, e⟩, fun _ d e => ⟨d, e⟩⟩⟩
theorem Stp.of {M : List Nat} {H H' : Hp} {E : Env} {Fs : Nat → List Addr} (c : Chg No H H') : Stp M H H' E E Fs Fs :=
  ⟨c.mono fun _ _ _ z => z.elim, fun _ _ => rfl, fun _ _ h => .inl h, fun _ _ => rfl, fun _ => ⟨fun _ d e => ⟨d, e⟩, fun _ d e => ⟨d, e⟩⟩⟩
theorem Stp.asg {M : List Nat} {H H' : Hp} {E E' : Env} {Fs Fs' : Nat → List Addr} (s : Stp M H H' E E' Fs Fs') {i : Nat} : Asg E' i ↔ Asg E i :=
  ⟨fun ⟨m, d, e⟩ => let ⟨d', e'⟩ := (s.md i).2 m d e; ⟨m, d', e'⟩, fun ⟨m, d, e⟩ => let ⟨d', e'⟩ := (s.md i).1 m d e; ⟨m, d', e'⟩⟩
theorem Stp.trans {M M' : List Nat} {H H1 H2 : Hp} {E E1 E2 : Env} {Fs Fs1 Fs2 : Nat → List Addr} (a : Stp M H H1 E E1 Fs Fs1) (b : Stp M' H1 H2 E1 E2 Fs1 Fs2) : Stp (M ++ M') H H2 E E2 Fs Fs2 where
  chg := (a.chg.trans b.chg).mono fun q o e h => by
    rcases h with ⟨i, hi, m, d, h⟩ | ⟨i, hi, m, d, h1, h2, h3⟩
    · exact ⟨i, List.mem_append_left _ hi, m, d, h⟩
    · obtain ⟨d', e'⟩ := (a.md i).2 m d h1
      refine ⟨i, List.mem_append_right _ hi, m, d', e', h2, ?_⟩
      rcases a.gr i q h3 with z | z
      · exact z
      · rw [e] at z
        cases z
  fs := fun i hi => (b.fs i fun h => hi (List.mem_append_right _ h)).trans (a.fs i fun h => hi (List.mem_append_left _ h))
  gr := fun i q h => by
    rcases b.gr i q h with h | h
    · exact a.gr i q h
    · exact .inr (a.chg.back h)
  env := fun i hi => (b.env i fun h => hi (List.mem_append_right _ h)).trans (a.env i fun h => hi (List.mem_append_left _ h))
  md := fun i => ⟨fun m d e => let ⟨d', e'⟩ := (a.md i).1 m d e; (b.md i).1 m d' e', fun m d e => let ⟨d', e'⟩ := (b.md i).2 m d e; (a.md i).2 m d' e'⟩
theorem Stp.mono {M M' : List Nat} {H H' : Hp} {E E' : Env} {Fs Fs' : Nat → List Addr} (a : Stp M H H' E E' Fs Fs') (h : ∀ i ∈ M, i ∈ M') : Stp M' H H' E E' Fs Fs' where
  chg := a.chg.mono fun q o e ⟨i, hi, r⟩ => ⟨i, h i hi, r⟩
  fs := fun i hi => a.fs i fun z => hi (h i z)
  gr := a.gr
  env := fun i hi => a.env i fun z => hi (h i z)
  md := a.md
theorem Vw.base {M : Addr → Prop} {H H1 : Hp} {E : Env} {Fs : Nat → List Addr} {S : List Nat} {F : List Addr} (c : Chg M H H1) (h : Vw H1 E Fs S F) : Vw H E Fs S F := fun a ha => by
  rcases h a ha with z | ⟨z1, z2⟩
  · exact .inl z
  · exact .inr ⟨c.back z1, z2⟩
theorem KOk.base {σ : L2.St} {v : V} {M : Addr → Prop} {H H1 : Hp} {E : Env} {Fs : Nat → List Addr} {k : Kind} {d : D} {F : List Addr} (c : Chg M H H1) (h : KOk σ H1 E Fs k d v F) : KOk σ H E Fs k d v F := by
  cases k with
  | own => exact ⟨h.1, Vw.base c h.2⟩
  | sub i => exact h
  | top S => exact ⟨Vw.base c h.1, fun a r n e => let z := h.2 a r n e; ⟨c.back z.1, z.2⟩⟩
  | vw S => exact Vw.base c h
  | ref i => exact h
/-- k is not touched where slots M are written -/
def Kind.safe (k : Kind) (M : List Nat) : Bool := k.S.all fun i => !M.contains i
theorem Kind.safe_of {k : Kind} {M : List Nat} (h : k.safe M = true) : ∀ i ∈ k.S, i ∉ M := fun i hi hm => by
  have := List.all_eq_true.mp h i hi
  simp [hm] at this
section
variable {G : Gb} {C : Ctx} {H H1 H2 : Hp} {σ : L2.St} {E1 E2 : Env} {Fs1 Fs2 : Nat → List Addr} {k : Kind} {d : D} {v : V} {F : List Addr} {M : List Nat}
theorem Loose.step {a : Addr} {o : HO} (e : H1 a = some o) (s : Stp M H1 H2 E1 E2 Fs1 Fs2) (h : Loose H E1 Fs1 a) : Loose H E2 Fs2 a :=
  ⟨h.1, fun i hi m => by
    rcases s.gr i a m with z | z
    · exact h.2 i (s.asg.mp hi) z
    · rw [e] at z
      cases z⟩
theorem Vw.step {S : List Nat} (t : ∀ a ∈ F, ∃ o, H1 a = some o) (s : Stp M H1 H2 E1 E2 Fs1 Fs2) (hs : ∀ i ∈ S, i ∉ M) (h : Vw H E1 Fs1 S F) : Vw H E2 Fs2 S F := fun a ha => by
  rcases h a ha with ⟨i, hi, h1, h2⟩ | h1
  · exact .inl ⟨i, hi, s.asg.mpr h1, by rw [s.fs i (hs i hi)]; exact h2⟩
  · obtain ⟨o, e⟩ := t a ha
    exact .inr (h1.step e s)
theorem Vw.apart {S : List Nat} (R : Rel G C H1 σ E1 Fs1) (hs : ∀ i ∈ S, i ∉ M) (h : Vw H E1 Fs1 S F) : ∀ a ∈ F, ¬ ∃ i ∈ M, ∃ m d, E1[i]? = some (some (m, d)) ∧ m.w = true ∧ a ∈ Fs1 i := fun a ha ⟨j, hj, m, d, e, hw, hm⟩ => by
  rcases h a ha with ⟨i, hi, ⟨m', d', e'⟩, h2⟩ | h1
  · exact (R.nd j m d e hw).2.2 i m' d' (fun z => hs i hi (by rw [z]; exact hj)) e' a hm h2
  · exact h1.2 j ⟨m, d, e⟩ hm
theorem KOk.step (R : Rel G C H1 σ E1 Fs1) (r : Rds G H1 d v F) (s : Stp M H1 H2 E1 E2 Fs1 Fs2) (hs : k.safe M = true) (h : KOk σ H E1 Fs1 k d v F) : Rds G H2 d v F ∧ KOk σ H E2 Fs2 k d v F := by
  have t : ∀ a ∈ F, ∃ o, H1 a = some o := fun a ha => let ⟨o, e, _⟩ := Rds.trk d v F r a ha; ⟨o, e⟩
  have hs' := Kind.safe_of hs
  refine ⟨Rds.chg s.chg d v F (Vw.apart R hs' h.vw) r, ?_⟩
  cases k with
  | own => exact ⟨h.1, h.2.step t s (fun i hi => by cases hi)⟩
  | sub i => exact ⟨s.asg.mpr h.1, by rw [s.fs i (hs' i (List.mem_singleton.mpr rfl))]; exact h.2⟩
  | top S => exact ⟨h.1.step t s hs', fun a r n e => by
      obtain ⟨o, e'⟩ := t a (by rw [e]; exact List.mem_cons_self)
      exact (h.2 a r n e).step e' s⟩
  | vw S => exact Vw.step t s hs' h
  | ref i =>
    obtain ⟨m, e, e', rfl⟩ := h
    have n := hs' i (List.mem_singleton.mpr rfl)
    exact ⟨m, by rw [s.env i n]; exact e, e', (s.fs i n).symm⟩
end
/-! ### expressions -/
abbrev EF := Env → Option (D × Env)
def tV (G : Gb) (M : List Nat) (k : Kind) (f : EF) : TE := fun σ H Q => ∃ C E Fs, Rel G C H σ E Fs ∧ ∃ d E', f E = some (d, E') ∧
  ∀ v H' Fs' F, Rel G C H' σ E' Fs' → Stp M H H' E E' Fs Fs' → Rds G H' d v F → KOk σ H E' Fs' k d v F → Q v H'
/-- an expression, by values -/
abbrev VE (G : Gb) (X : Cx) (e : Expr) (M : List Nat) (k : Kind) (f : EF) : Prop := PE X e (tV G M k f)
theorem PE.imp {X : Cx} {e : Expr} {t t' : TE} (h : PE X e t) (i : ∀ σ H Q, t' σ H Q → t σ H Q) : PE X e t' := ⟨fun pins s σ H Q I q => h.run pins s σ H Q I (i σ H Q q)⟩
theorem PT.imp {X : Cx} {e : Expr} {t t' : TT} (h : PT X e t) (i : ∀ σ H Q, t' σ H Q → t σ H Q) : PT X e t' := ⟨fun pins s σ H Q I q => h.run pins s σ H Q I (i σ H Q q)⟩
theorem PA.imp {X : Cx} {es : List Expr} {t t' : TA} (h : PA X es t) (i : ∀ σ H Q, t' σ H Q → t σ H Q) : PA X es t' := ⟨fun p pins s σ H Q I q => h.run p pins s σ H Q I (i σ H Q q)⟩
theorem PS.imp {X : Cx} {e : Stmt} {t t' : TS} (h : PS X e t) (i : ∀ D σ H, t' D σ H → t D σ H) : PS X e t' := ⟨fun pins s σ H D I q => h.run pins s σ H D I (i D σ H q)⟩
theorem PSs.imp {X : Cx} {e : List Stmt} {t t' : TS} (h : PSs X e t) (i : ∀ D σ H, t' D σ H → t D σ H) : PSs X e t' := ⟨fun pins s σ H D I q => h.run pins s σ H D I (i D σ H q)⟩
/-- several in a row: each of its kind; of two one of which is its own they stand apart -/
def ArgsOk (G : Gb) (σ : L2.St) (H H' : Hp) (E : Env) (Fs : Nat → List Addr) : List Kind → List D → List V → List (List Addr) → Prop
  | [], ds, vs, FF => ds = [] ∧ vs = [] ∧ FF = []
  | k :: ks, ds, vs, FF => ∃ d ds' v vs' F FF', ds = d :: ds' ∧ vs = v :: vs' ∧ FF = F :: FF' ∧ Rds G H' d v F ∧ KOk σ H E Fs k d v F ∧
      (∀ (j : Nat) (B : List Addr), FF'[j]? = some B → (k = Kind.own ∨ ks[j]? = some Kind.own) → ∀ a ∈ F, a ∉ B) ∧ ArgsOk G σ H H' E Fs ks ds' vs' FF'
abbrev LF := Env → Option (List D × Env)
def tVL (G : Gb) (M : List Nat) (ks : List Kind) (f : LF) : TA := fun σ H Q => ∃ C E Fs, Rel G C H σ E Fs ∧ ∃ ds E', f E = some (ds, E') ∧
  ∀ vs H' Fs' FF, Rel G C H' σ E' Fs' → Stp M H H' E E' Fs Fs' → ArgsOk G σ H H' E' Fs' ks ds vs FF → Q vs H'
abbrev VL (G : Gb) (X : Cx) (es : List Expr) (M : List Nat) (ks : List Kind) (f : LF) : Prop := PA X es (tVL G M ks f)
def lNil : LF := fun E => some ([], E)
def lCons (f : EF) (g : LF) : LF := fun E => match f E with
  | some (d, E1) => (match g E1 with
    | some (ds, E2) => some (d :: ds, E2)
    | none => none)
  | none => none
theorem ArgsOk.base {G : Gb} {σ : L2.St} {M : Addr → Prop} {H H1 H' : Hp} {E : Env} {Fs : Nat → List Addr} (c : Chg M H H1) : ∀ {ks : List Kind} {ds : List D} {vs : List V} {FF : List (List Addr)}, ArgsOk G σ H1 H' E Fs ks ds vs FF → ArgsOk G σ H H' E Fs ks ds vs FF
  | [], _, _, _, h => by unfold ArgsOk at h ⊢; exact h
  | k :: ks, _, _, _, h => by
    unfold ArgsOk at h ⊢
    obtain ⟨d, ds', v, vs', F, FF', h1, h2, h3, h4, h5, h6, h7⟩ := h
    exact ⟨d, ds', v, vs', F, FF', h1, h2, h3, h4, h5.base c, h6, h7.base c⟩
theorem ArgsOk.get {G : Gb} {σ : L2.St} {H H' : Hp} {E : Env} {Fs : Nat → List Addr} : ∀ {ks : List Kind} {ds : List D} {vs : List V} {FF : List (List Addr)} {j : Nat} {B : List Addr}, ArgsOk G σ H H' E Fs ks ds vs FF → FF[j]? = some B → ∃ k d v, ks[j]? = some k ∧ ds[j]? = some d ∧ vs[j]? = some v ∧ Rds G H' d v B ∧ KOk σ H E Fs k d v B
  | [], _, _, _, j, B, h, e => by
    obtain ⟨_, _, rfl⟩ := h
    simp at e
  | k :: ks, _, _, _, j, B, h, e => by
    obtain ⟨d, ds', v, vs', F, FF', rfl, rfl, rfl, h4, h5, h6, h7⟩ := h
    cases j with
    | zero =>
      simp at e
      subst e
      exact ⟨k, d, v, rfl, rfl, rfl, h4, h5⟩
    | succ j => simpa using h7.get (by simpa using e)
section
variable {G : Gb} {X : Cx} {e : Expr} {es : List Expr} {M M' : List Nat} {k : Kind} {ks : List Kind} {f : EF} {g : LF}
theorem vl_nil : VL G X [] [] [] lNil := PA.imp pa_nil fun σ H Q ⟨C, E, Fs, R, ds, E', e, q⟩ => by
  cases e
  exact q [] H Fs [] R Stp.refl ⟨rfl, rfl, rfl⟩
/-- one, then the rest -/
theorem seq_cons {σ : L2.St} {H : Hp} {Q : List V → Hp → Prop} (hs : k.safe M' = true) (h : tVL G (M ++ M') (k :: ks) (lCons f g) σ H Q) : tV G M k f σ H fun x H1 => tVL G M' ks g σ H1 fun xs H2 => Q (x :: xs) H2 := by
  obtain ⟨C, E, Fs, R, ds, E', e, q⟩ := h
  unfold lCons at e
  cases e1 : f E with
  | none => rw [e1] at e; cases e
  | some p =>
    obtain ⟨d, E1⟩ := p
    rw [e1] at e
    dsimp only at e
    cases e2 : g E1 with
    | none => rw [e2] at e; cases e
    | some p2 =>
      obtain ⟨ds', E'⟩ := p2
      rw [e2] at e
      cases e
      refine ⟨C, E, Fs, R, d, E1, e1, fun v H1 Fs1 F R1 s1 r1 k1 => ⟨C, E1, Fs1, R1, ds', E', e2, fun vs H2 Fs2 FF R2 s2 a2 => ?_⟩⟩
      obtain ⟨r2, k2⟩ := k1.step R1 r1 s2 hs
      refine q (v :: vs) H2 Fs2 (F :: FF) R2 (s1.trans s2) ⟨d, ds', v, vs, F, FF, rfl, rfl, rfl, r2, k2, fun j B hB hk a ha hb => ?_, a2.base s1.chg⟩
      obtain ⟨o, eo, _⟩ := Rds.trk d v F r1 a ha
      have kj' : ∃ kj dj vj, ks[j]? = some kj ∧ KOk σ H1 E' Fs2 kj dj vj B := let ⟨kj, dj, vj, h1, _, _, _, h5⟩ := a2.get hB; ⟨kj, dj, vj, h1, h5⟩
      obtain ⟨kj, dj, vj, ej, hj⟩ := kj'
      rcases hj.vw a hb with ⟨i, hi, h1, h2⟩ | h1
      · rcases hk with hk | hk
        · subst hk
          rcases k2.2 a ha with ⟨_, z, _⟩ | z
          · cases z
          · exact z.2 i h1 h2
        · rw [hk] at ej
          cases ej
          cases hi
      · rw [h1.1] at eo
        cases eo
theorem vl_cons (he : VE G X e M k f) (hr : VL G X es M' ks g) (sf : k.safe M' = true := by rfl) (hs : starEach (e :: es) X.env = (false, eval e X.env) :: starEach es X.env := by rfl) : VL G X (e :: es) (M ++ M') (k :: ks) (lCons f g) :=
  PA.imp (pa_cons he hr hs) fun σ H Q h => seq_cons sf h
end
end VL
set_option maxHeartbeats 4000000
namespace VL
noncomputable section
open PySem PySem.Spec PyProof.Rows L2
open GxR (TabB TabG Tabbed)
section
variable {G : Gb} {C : Ctx} {H H' : Hp} {σ : L2.St} {E : Env} {Fs : Nat → List Addr}
theorem Rel.loose (R : Rel G C H σ E Fs) {a : Addr} (n : H a = none) : Loose H E Fs a := ⟨n, fun i ⟨m, d, e⟩ hm => by
  obtain ⟨v, _, r, _⟩ := R.rd i m d e
  obtain ⟨o, e', _⟩ := Rds.trk d v _ r a hm
  rw [n] at e'
  cases e'⟩
theorem Rel.chg (R : Rel G C H σ E Fs) (c : Chg No H H') : Rel G C H' σ E Fs where
  len := R.len
  rd := fun i m d e => let ⟨v, h1, h2, h3⟩ := R.rd i m d e; ⟨v, h1, Rds.chg c d v _ (fun _ _ z => z) h2, h3⟩
  nd := R.nd
  nw := R.nw
  fr := (R.fr.trans c).mono fun _ _ _ z => z.elim id fun z => z.elim
  pr := (R.pr.trans c).mono fun _ _ _ z => z.elim id fun z => z.elim
  pt := R.pt
  tb := fun T hT => c.tab (R.tb T hT)
theorem ArgsOk.rds : ∀ {ks : List Kind} {ds : List D} {vs : List V} {FF : List (List Addr)} {H1 : Hp}, ArgsOk G σ H1 H E Fs ks ds vs FF → RdsL G H ds vs FF.flatten
  | [], _, _, _, _, h => by
    obtain ⟨rfl, rfl, rfl⟩ := h
    unfold RdsL
    exact ⟨rfl, rfl⟩
  | k :: ks, _, _, _, _, h => by
    obtain ⟨d, ds', v, vs', F, FF', rfl, rfl, rfl, h4, h5, h6, h7⟩ := h
    unfold RdsL
    exact ⟨v, vs', F, FF'.flatten, rfl, by simp, h4, h7.rds⟩
theorem ArgsOk.vw : ∀ {ks : List Kind} {ds : List D} {vs : List V} {FF : List (List Addr)} {H1 : Hp}, ArgsOk G σ H1 H E Fs ks ds vs FF → Vw H1 E Fs (ks.map Kind.S).flatten FF.flatten
  | [], _, _, _, _, h => by
    obtain ⟨rfl, rfl, rfl⟩ := h
    intro a ha
    cases ha
  | k :: ks, _, _, _, _, h => by
    obtain ⟨d, ds', v, vs', F, FF', rfl, rfl, rfl, h4, h5, h6, h7⟩ := h
    intro a ha
    rw [List.flatten_cons, List.mem_append] at ha
    rcases ha with ha | ha
    · rcases h5.vw a ha with ⟨i, hi, z⟩ | z
      · exact .inl ⟨i, by rw [List.map_cons, List.flatten_cons]; exact List.mem_append_left _ hi, z⟩
      · exact .inr z
    · rcases h7.vw a ha with ⟨i, hi, z⟩ | z
      · exact .inl ⟨i, by rw [List.map_cons, List.flatten_cons]; exact List.mem_append_right _ hi, z⟩
      · exact .inr z
theorem ArgsOk.nodup : ∀ {ks : List Kind} {ds : List D} {vs : List V} {FF : List (List Addr)} {H1 : Hp}, (∀ k ∈ ks, k = Kind.own) → ArgsOk G σ H1 H E Fs ks ds vs FF → FF.flatten.Nodup
  | [], _, _, _, _, _, h => by
    obtain ⟨rfl, rfl, rfl⟩ := h
    exact List.nodup_nil
  | k :: ks, _, _, _, _, o, h => by
    obtain ⟨d, ds', v, vs', F, FF', rfl, rfl, rfl, h4, h5, h6, h7⟩ := h
    have hk := o k List.mem_cons_self
    subst hk
    rw [List.flatten_cons, List.nodup_append]
    refine ⟨h5.1, h7.nodup fun k hk => o k (List.mem_cons_of_mem _ hk), fun a ha b hb e => ?_⟩
    subst e
    obtain ⟨B, hB, hb⟩ := List.mem_flatten.mp hb
    obtain ⟨j, hj, e⟩ := List.mem_iff_getElem.mp hB
    exact h6 j B (by rw [← e]; exact List.getElem?_eq_getElem hj) (.inl rfl) a ha hb
end
/-! ### what is made of values -/
/-- r gives, of values that are ds, p ds, all of it new -/
def PrimF (G : Gb) (r : List V → Hp → VK → Prop) (p : List D → Option D) : Prop := ∀ (H : Hp) (vs : List V) (ds : List D) (F : List Addr) (Q : VK) (d : D), (∀ T ∈ G.tabs, TabG H T) → RdsL G H ds vs F → p ds = some d →
  (∀ v H' A, Rds G H' d v A → A.Nodup → (∀ a ∈ A, H a = none) → Chg No H H' → Q v H') → r vs H Q
/-- .. its top new, the rest of ds -/
def PrimV (G : Gb) (r : List V → Hp → VK → Prop) (p : List D → Option D) : Prop := ∀ (H : Hp) (vs : List V) (ds : List D) (F : List Addr) (Q : VK) (d : D), (∀ T ∈ G.tabs, TabG H T) → RdsL G H ds vs F → p ds = some d →
  (∀ v H' A, Rds G H' d v A → (F.Nodup → A.Nodup) → (∀ a ∈ A, a ∈ F ∨ H a = none) → (∀ a t, d.node = true → A = a :: t → H a = none) → Chg No H H' → Q v H') → r vs H Q
theorem PrimF.v {G : Gb} {r : List V → Hp → VK → Prop} {p : List D → Option D} (h : PrimF G r p) : PrimV G r p := fun H vs ds F Q d t rd e q =>
  h H vs ds F Q d t rd e fun v H' A r1 nd nw c => q v H' A r1 (fun _ => nd) (fun a ha => .inr (nw a ha)) (fun a t _ e => nw a (by rw [e]; exact List.mem_cons_self)) c
/-- a part of what the first one is -/
def PrimE (G : Gb) (r : List V → Hp → VK → Prop) (p : List D → Option D) : Prop := ∀ (H : Hp) (d1 : D) (v1 : V) (F1 : List Addr) (vs : List V) (ds : List D) (F : List Addr) (Q : VK) (d : D), (∀ T ∈ G.tabs, TabG H T) → Rds G H d1 v1 F1 → RdsL G H ds vs F → p (d1 :: ds) = some d →
  (∀ v H' A, Rds G H' d v A → A.Sublist F1 → Chg No H H' → Q v H') → r (v1 :: vs) H Q
def ePrim (p : List D → Option D) (l : LF) : EF := fun E => match l E with
  | some (ds, E') => (match p ds with
    | some d => some (d, E')
    | none => none)
  | none => none
/-- own where all are, else new at its top -/
def kTop (ks : List Kind) : Kind := if ks.all (fun k => decide (k = Kind.own)) then .own else .top (ks.map Kind.S).flatten
section
variable {G : Gb} {M : List Nat} {ks : List Kind} {l : LF} {p : List D → Option D} {r : List V → Hp → VK → Prop} {σ : L2.St} {H : Hp} {Q : VK}
theorem ePrim_some {E E' : Env} {d : D} (h : ePrim p l E = some (d, E')) : ∃ ds, l E = some (ds, E') ∧ p ds = some d := by
  unfold ePrim at h
  cases e : l E with
  | none => rw [e] at h; cases h
  | some x =>
    obtain ⟨ds, E1⟩ := x
    rw [e] at h
    dsimp only at h
    cases e2 : p ds with
    | none => rw [e2] at h; cases h
    | some d' =>
      rw [e2] at h
      cases h
      exact ⟨ds, rfl, e2⟩
section
variable {C : Ctx} {E E' : Env} {Fs Fs2 : Nat → List Addr} {H2 : Hp} {ds : List D} {vs : List V} {FF : List (List Addr)} {d : D}
theorem fin_own (P : PrimF G r p) (R2 : Rel G C H2 σ E' Fs2) (s2 : Stp M H H2 E E' Fs Fs2) (a2 : RdsL G H2 ds vs FF.flatten) (e2 : p ds = some d)
    (q : ∀ v H' Fs' F, Rel G C H' σ E' Fs' → Stp M H H' E E' Fs Fs' → Rds G H' d v F → KOk σ H E' Fs' .own d v F → Q v H') : r vs H2 Q := by
  refine P H2 vs ds _ Q d R2.tb a2 e2 fun v H3 A rA nd nw c => ?_
  refine q v H3 Fs2 A (R2.chg c) ((s2.trans (Stp.of (M := []) c)).mono fun i hi => by simpa using hi) rA ⟨nd, fun a ha => .inr ?_⟩
  have z := R2.loose (nw a ha)
  exact ⟨s2.chg.back z.1, z.2⟩
theorem fin_top (P : PrimV G r p) (R2 : Rel G C H2 σ E' Fs2) (s2 : Stp M H H2 E E' Fs Fs2) (a2 : ArgsOk G σ H H2 E' Fs2 ks ds vs FF) (e2 : p ds = some d)
    (q : ∀ v H' Fs' F, Rel G C H' σ E' Fs' → Stp M H H' E E' Fs Fs' → Rds G H' d v F → KOk σ H E' Fs' (kTop ks) d v F → Q v H') : r vs H2 Q := by
  refine P H2 vs ds _ Q d R2.tb a2.rds e2 fun v H3 A rA nd nw tp c => ?_
  refine q v H3 Fs2 A (R2.chg c) ((s2.trans (Stp.of (M := []) c)).mono fun i hi => by simpa using hi) rA ?_
  have vw : Vw H E' Fs2 (ks.map Kind.S).flatten A := fun a ha => by
    rcases nw a ha with z | z
    · exact a2.vw a z
    · have z := R2.loose z
      exact .inr ⟨s2.chg.back z.1, z.2⟩
  unfold kTop
  by_cases hk : (ks.all fun k => decide (k = Kind.own)) = true
  · rw [if_pos hk]
    have hk' : ∀ k ∈ ks, k = Kind.own := fun k hk1 => of_decide_eq_true (List.all_eq_true.mp hk k hk1)
    have e0 : (ks.map Kind.S).flatten = [] := by
      rw [List.flatten_eq_nil_iff]
      intro l hl
      obtain ⟨k, h1, rfl⟩ := List.mem_map.mp hl
      rw [hk' k h1]
      rfl
    rw [e0] at vw
    exact ⟨nd (a2.nodup hk'), vw⟩
  · rw [if_neg hk]
    refine ⟨vw, fun a t n e => ?_⟩
    have z := R2.loose (tp a t n e)
    exact ⟨s2.chg.back z.1, z.2⟩
/-- the kind of a part -/
def kPart : List Kind → Kind
  | .own :: _ => .own
  | .sub i :: _ => .sub i
  | .top S :: _ => .vw S
  | .vw S :: _ => .vw S
  | .ref i :: _ => .sub i
  | [] => .own
theorem fin_part {k : Kind} (P : PrimE G r p) (R2 : Rel G C H2 σ E' Fs2) (s2 : Stp M H H2 E E' Fs Fs2) (a2 : ArgsOk G σ H H2 E' Fs2 (k :: ks) ds vs FF) (e2 : p ds = some d)
    (q : ∀ v H' Fs' F, Rel G C H' σ E' Fs' → Stp M H H' E E' Fs Fs' → Rds G H' d v F → KOk σ H E' Fs' (kPart (k :: ks)) d v F → Q v H') : r vs H2 Q := by
  obtain ⟨d1, ds', v1, vs', F1, FF', rfl, rfl, rfl, h4, h5, h6, h7⟩ := a2
  refine P H2 d1 v1 F1 vs' ds' _ Q d R2.tb h4 h7.rds e2 fun v H3 A rA sb c => ?_
  refine q v H3 Fs2 A (R2.chg c) ((s2.trans (Stp.of (M := []) c)).mono fun i hi => by simpa using hi) rA ?_
  have vw : Vw H E' Fs2 k.S A := fun a ha => h5.vw a (sb.subset ha)
  cases k with
  | own => exact ⟨sb.nodup h5.1, vw⟩
  | sub i => exact ⟨h5.1, sb.trans h5.2⟩
  | top S => exact vw
  | vw S => exact vw
  | ref i =>
    obtain ⟨m, e, _, rfl⟩ := h5
    exact ⟨⟨_, _, e⟩, sb⟩
end
theorem prim_own (P : PrimF G r p) (h : tV G M .own (ePrim p l) σ H Q) : tVL G M ks l σ H fun vs H2 => r vs H2 Q := by
  obtain ⟨C, E, Fs, R, d, E', e, q⟩ := h
  obtain ⟨ds, e1, e2⟩ := ePrim_some e
  exact ⟨C, E, Fs, R, ds, E', e1, fun vs H2 Fs2 FF R2 s2 a2 => fin_own P R2 s2 a2.rds e2 q⟩
theorem prim_top (P : PrimV G r p) (h : tV G M (kTop ks) (ePrim p l) σ H Q) : tVL G M ks l σ H fun vs H2 => r vs H2 Q := by
  obtain ⟨C, E, Fs, R, d, E', e, q⟩ := h
  obtain ⟨ds, e1, e2⟩ := ePrim_some e
  exact ⟨C, E, Fs, R, ds, E', e1, fun vs H2 Fs2 FF R2 s2 a2 => fin_top P R2 s2 a2 e2 q⟩
theorem prim_part {k : Kind} (P : PrimE G r p) (h : tV G M (kPart (k :: ks)) (ePrim p l) σ H Q) : tVL G M (k :: ks) l σ H fun vs H2 => r vs H2 Q := by
  obtain ⟨C, E, Fs, R, d, E', e, q⟩ := h
  obtain ⟨ds, e1, e2⟩ := ePrim_some e
  exact ⟨C, E, Fs, R, ds, E', e1, fun vs H2 Fs2 FF R2 s2 a2 => fin_part P R2 s2 a2 e2 q⟩
end
end
end VL
set_option maxHeartbeats 4000000
namespace VL
noncomputable section
open PySem PySem.Spec PyProof.Rows L2
open GxR (TabB TabG Tabbed)
section
variable {G : Gb} {H : Hp} {v : V} {F : List Addr}
theorem rds_non : Rds G H .non v F ↔ v = .non ∧ F = [] := by unfold Rds; exact Iff.rfl
theorem rds_bl {b : Bool} : Rds G H (.bl b) v F ↔ v = .bl b ∧ F = [] := by unfold Rds; exact Iff.rfl
theorem rds_int {i : Int} : Rds G H (.int i) v F ↔ v = .int i ∧ F = [] := by unfold Rds; exact Iff.rfl
theorem rds_str {s : Str} : Rds G H (.str s) v F ↔ v = .str s ∧ F = [] := by unfold Rds; exact Iff.rfl
theorem rds_tup {ds : List D} : Rds G H (.tup ds) v F ↔ ∃ a xs, v = .ref a ∧ SqT G.K H a xs ∧ RdsL G H ds xs F := by unfold Rds; exact Iff.rfl
theorem rds_lst {ds : List D} : Rds G H (.lst ds) v F ↔ ∃ a xs A, v = .ref a ∧ H a = some (.lst xs) ∧ RdsL G H ds xs A ∧ F = a :: A := by unfold Rds; exact Iff.rfl
theorem rds_dct {ks : List Key} {ds : List D} : Rds G H (.dct ks ds) v F ↔ ∃ a us A, v = .ref a ∧ H a = some (.dK us) ∧ (us.map (·.1) = ks ∧ ks.Nodup) ∧ RdsL G H ds (us.map (·.2)) A ∧ F = a :: A := by unfold Rds; exact Iff.rfl
theorem rds_scr {ns : List Int} : Rds G H (.scr ns) v F ↔ ∃ a, v = .ref a ∧ ScrAt G.K H a (ns.map V.int) ∧ F = [] := by unfold Rds; exact Iff.rfl
theorem rdsL_nil {vs : List V} : RdsL G H [] vs F ↔ vs = [] ∧ F = [] := by unfold RdsL; exact Iff.rfl
theorem rdsL_cons {d : D} {ds : List D} {vs : List V} : RdsL G H (d :: ds) vs F ↔ ∃ x r A B, vs = x :: r ∧ F = A ++ B ∧ Rds G H d x A ∧ RdsL G H ds r B := by
  rw [RdsL]
theorem rdsL1 {d : D} {vs : List V} (h : RdsL G H [d] vs F) : ∃ x, vs = [x] ∧ Rds G H d x F := by
  obtain ⟨x, r, A, B, rfl, rfl, h1, h2⟩ := rdsL_cons.mp h
  obtain ⟨rfl, rfl⟩ := rdsL_nil.mp h2
  exact ⟨x, rfl, by rw [List.append_nil]; exact h1⟩
theorem rdsL2 {d e : D} {vs : List V} (h : RdsL G H [d, e] vs F) : ∃ x y A B, vs = [x, y] ∧ F = A ++ B ∧ Rds G H d x A ∧ Rds G H e y B := by
  obtain ⟨x, r, A, B, rfl, rfl, h1, h2⟩ := rdsL_cons.mp h
  obtain ⟨y, rfl, h3⟩ := rdsL1 h2
  exact ⟨x, y, A, B, rfl, rfl, h1, h3⟩
theorem rdsL_len : ∀ {ds : List D} {vs : List V} {F : List Addr}, RdsL G H ds vs F → vs.length = ds.length
  | [], _, _, h => by rw [(rdsL_nil.mp h).1]; rfl
  | d :: ds, _, _, h => by
    obtain ⟨x, r, A, B, rfl, rfl, h1, h2⟩ := rdsL_cons.mp h
    rw [List.length_cons, List.length_cons, rdsL_len h2]
theorem rdsL_app : ∀ {ds es : List D} {vs us : List V} {A B : List Addr}, RdsL G H ds vs A → RdsL G H es us B → RdsL G H (ds ++ es) (vs ++ us) (A ++ B)
  | [], _, _, _, _, _, h, h' => by
    obtain ⟨rfl, rfl⟩ := rdsL_nil.mp h
    exact h'
  | d :: ds, es, _, us, _, B, h, h' => by
    obtain ⟨x, r, A1, A2, rfl, rfl, h1, h2⟩ := rdsL_cons.mp h
    exact rdsL_cons.mpr ⟨x, r ++ us, A1, A2 ++ B, rfl, by rw [List.append_assoc], h1, rdsL_app h2 h'⟩
theorem rdsL_get : ∀ {ds : List D} {vs : List V} {F : List Addr} {i : Nat} {d : D}, RdsL G H ds vs F → ds[i]? = some d → ∃ x A, vs[i]? = some x ∧ Rds G H d x A ∧ A.Sublist F
  | [], _, _, i, d, h, e => by simp at e
  | d' :: ds, _, _, i, d, h, e => by
    obtain ⟨x, r, A, B, rfl, rfl, h1, h2⟩ := rdsL_cons.mp h
    cases i with
    | zero =>
      simp at e
      subst e
      exact ⟨x, A, rfl, h1, List.sublist_append_left ..⟩
    | succ i =>
      obtain ⟨y, A', h3, h4, h5⟩ := rdsL_get h2 (by simpa using e)
      exact ⟨y, A', by simpa using h3, h4, h5.trans (List.sublist_append_right ..)⟩
theorem rdsL_ints : ∀ {ns : List Int} {vs : List V} {F : List Addr}, RdsL G H (ns.map D.int) vs F → vs = ns.map V.int ∧ F = []
  | [], _, _, h => rdsL_nil.mp h
  | n :: ns, _, _, h => by
    obtain ⟨x, r, A, B, rfl, rfl, h1, h2⟩ := rdsL_cons.mp h
    obtain ⟨rfl, rfl⟩ := rds_int.mp h1
    obtain ⟨rfl, rfl⟩ := rdsL_ints h2
    exact ⟨rfl, rfl⟩
theorem rdsL_mk_ints : ∀ (ns : List Int), RdsL G H (ns.map D.int) (ns.map V.int) []
  | [] => rdsL_nil.mpr ⟨rfl, rfl⟩
  | n :: ns => rdsL_cons.mpr ⟨_, _, [], [], rfl, rfl, rds_int.mpr ⟨rfl, rfl⟩, rdsL_mk_ints ns⟩
end
/-! ### as the library's data -/
mutual
def D.py : D → Option PyData
  | .non => some .none
  | .bl b => some (.bool b)
  | .int i => some (.int i)
  | .str s => some (.str s)
  | .tup ds => (D.pyL ds).map .tuple
  | .lst ds => (D.pyL ds).map .list
  | .scr ns => some (.list (ns.map .int))
  | .dct _ _ => none
  | .obj _ _ _ => none
def D.pyL : List D → Option (List PyData)
  | [] => some []
  | d :: ds => match d.py, D.pyL ds with
    | some p, some ps => some (p :: ps)
    | _, _ => none
end
section
variable {G : Gb} {H : Hp}
theorem dp_ints {K : PySem.W.Frag} : ∀ ns : List Int, DpAll K H (ns.map V.int) (ns.map PyData.int)
  | [] => .nil
  | n :: ns => .cons (.int n) (dp_ints ns)
mutual
theorem Rds.dp : ∀ (d : D) (v : V) (F : List Addr) (p : PyData), d.py = some p → Rds G H d v F → Dp G.K H v p
  | .non, v, F, p, e, h => by
    rw [D.py] at e
    cases e
    rw [(rds_non.mp h).1]
    exact .non
  | .bl b, v, F, p, e, h => by
    rw [D.py] at e
    cases e
    rw [(rds_bl.mp h).1]
    exact .bl b
  | .int i, v, F, p, e, h => by
    rw [D.py] at e
    cases e
    rw [(rds_int.mp h).1]
    exact .int i
  | .str s, v, F, p, e, h => by
    rw [D.py] at e
    cases e
    rw [(rds_str.mp h).1]
    exact .str s
  | .tup ds, v, F, p, e, h => by
    rw [D.py] at e
    cases e1 : D.pyL ds with
    | none => rw [e1] at e; cases e
    | some ps =>
      rw [e1] at e
      cases e
      obtain ⟨a, xs, rfl, h1, h2⟩ := rds_tup.mp h
      exact .tup h1 (RdsL.dp ds xs F ps e1 h2)
  | .lst ds, v, F, p, e, h => by
    rw [D.py] at e
    cases e1 : D.pyL ds with
    | none => rw [e1] at e; cases e
    | some ps =>
      rw [e1] at e
      cases e
      obtain ⟨a, xs, A, rfl, h1, h2, rfl⟩ := rds_lst.mp h
      exact .lst (SqL.of h1) (RdsL.dp ds xs A ps e1 h2)
  | .scr ns, v, F, p, e, h => by
    rw [D.py] at e
    cases e
    obtain ⟨a, rfl, h1, _⟩ := rds_scr.mp h
    exact .lst h1.sql (dp_ints ns)
  | .dct _ _, v, F, p, e, h => by rw [D.py] at e; cases e
  | .obj _ _ _, v, F, p, e, h => by rw [D.py] at e; cases e
theorem RdsL.dp : ∀ (ds : List D) (vs : List V) (F : List Addr) (ps : List PyData), D.pyL ds = some ps → RdsL G H ds vs F → DpAll G.K H vs ps
  | [], vs, F, ps, e, h => by
    rw [D.pyL] at e
    cases e
    rw [(rdsL_nil.mp h).1]
    exact .nil
  | d :: ds, vs, F, ps, e, h => by
    rw [D.pyL] at e
    obtain ⟨x, r, A, B, rfl, rfl, h1, h2⟩ := rdsL_cons.mp h
    cases e1 : d.py with
    | none => rw [e1] at e; cases e
    | some p =>
      cases e2 : D.pyL ds with
      | none => rw [e1, e2] at e; cases e
      | some ps' =>
        rw [e1, e2] at e
        cases e
        exact .cons (Rds.dp d x A p e1 h1) (RdsL.dp ds r B ps' e2 h2)
end
end
/-! ### expressions -/
/-- what the rules want of where one stands -/
structure XOk (G : Gb) (X : Cx) : Prop where
  K : X.K = G.K
  calm : X.calm = true
  un : X.A.units + 70 < cLine
section
variable {G : Gb} {X : Cx} {a b c e : Expr} {es : List Expr} {M M' M2 : List Nat} {k k' k2 : Kind} {ks : List Kind} {f g h : EF} {l : LF} {p : List D → Option D} {pos : Pos} {σ : L2.St} {H : Hp}
theorem safe_nil (k : Kind) : k.safe [] = true := by
  unfold Kind.safe
  exact List.all_eq_true.mpr fun i _ => rfl
theorem nil_of {R : List V → Hp → Prop} (h : tVL G [] [] lNil σ H R) : R [] H := by
  obtain ⟨C, E, Fs, R, ds, E', e, q⟩ := h
  cases e
  exact q [] H Fs [] R Stp.refl ⟨rfl, rfl, rfl⟩
theorem tV.mono {Q Q' : VK} (h : tV G M k f σ H Q) (i : ∀ v H, Q v H → Q' v H) : tV G M k f σ H Q' := by
  obtain ⟨C, E, Fs, R, d, E', e, q⟩ := h
  exact ⟨C, E, Fs, R, d, E', e, fun v H' Fs' F h1 h2 h3 h4 => i _ _ (q v H' Fs' F h1 h2 h3 h4)⟩
theorem tVL.mono {Q Q' : List V → Hp → Prop} (h : tVL G M ks l σ H Q) (i : ∀ v H, Q v H → Q' v H) : tVL G M ks l σ H Q' := by
  obtain ⟨C, E, Fs, R, d, E', e, q⟩ := h
  exact ⟨C, E, Fs, R, d, E', e, fun v H' Fs' F h1 h2 h3 => i _ _ (q v H' Fs' F h1 h2 h3)⟩
theorem one_of {R : List V → Hp → Prop} (h : tVL G M [k] (lCons f lNil) σ H R) : tV G M k f σ H fun x H1 => R [x] H1 := by
  have h' : tVL G (M ++ []) [k] (lCons f lNil) σ H R := by rw [List.append_nil]; exact h
  exact (seq_cons (safe_nil k) h').mono fun x H1 q => nil_of q
theorem two_of {R : List V → Hp → Prop} (sf : k.safe M' = true) (h : tVL G (M ++ M') [k, k'] (lCons f (lCons g lNil)) σ H R) : tV G M k f σ H fun x H1 => tV G M' k' g σ H1 fun y H2 => R [x, y] H2 :=
  (seq_cons sf h).mono fun x H1 q => one_of q
/-- names and constants -/
def eVar (i : Nat) : EF := fun E => match E[i]? with
  | some (some (_, d)) => some (d, E)
  | _ => none
def eC (d : D) : EF := fun E => some (d, E)
theorem ve_var {i : Nat} (h : PE X e (tVar i)) : VE G X e [] (.sub i) (eVar i) := PE.imp h fun σ H Q ⟨C, E, Fs, R, d, E', e, q⟩ => by
  unfold eVar at e
  split at e
  · rename_i m d' e1
    cases e
    obtain ⟨v, h1, h2, _⟩ := R.rd i m _ e1
    exact ⟨v, h1, q v H Fs _ R Stp.refl h2 ⟨⟨_, _, e1⟩, List.Sublist.refl _⟩⟩
  · cases e
theorem ve_c {d : D} {v : V} (h : PE X e (tC v)) (hd : ∀ G H, Rds G H d v []) : VE G X e [] .own (eC d) := PE.imp h fun σ H Q ⟨C, E, Fs, R, d', E', e, q⟩ => by
  cases e
  exact q v H Fs [] R Stp.refl (hd _ _) ⟨List.nodup_nil, fun a ha => by cases ha⟩
theorem ve_int {i : Int} {j} : VE G X (.Constant (.int i) j pos) [] .own (eC (.int i)) := ve_c pe_int fun _ _ => rds_int.mpr ⟨rfl, rfl⟩
theorem ve_bl {i : Bool} {j} : VE G X (.Constant (.bool i) j pos) [] .own (eC (.bl i)) := ve_c pe_bl fun _ _ => rds_bl.mpr ⟨rfl, rfl⟩
theorem ve_non {j} : VE G X (.Constant .none j pos) [] .own (eC .non) := ve_c pe_non fun _ _ => rds_non.mpr ⟨rfl, rfl⟩
theorem ve_str {x : Str} {j} : VE G X (.Constant (.str x) j pos) [] .own (eC (.str x)) := ve_c pe_str fun _ _ => rds_str.mpr ⟨rfl, rfl⟩
/-- of two values -/
def r2 (r : R2) : List V → Hp → VK → Prop := fun vs H Q => ∃ x y, vs = [x, y] ∧ r x y H Q
theorem r2_of {r : R2} {x y : V} {Q : VK} (h : r2 r [x, y] H Q) : r x y H Q := by
  obtain ⟨_, _, e, q⟩ := h
  cases e
  exact q
theorem ve_op {op : Operator} {r : R2} (ho : OpR X (binaryOp op) r) (P : PrimF G (r2 r) p) (ha : VE G X a M k f) (hb : VE G X b M' k' g) (sf : k.safe M' = true := by rfl) : VE G X (.BinOp a op b pos) (M ++ M') .own (ePrim p (lCons f (lCons g lNil))) :=
  PE.imp (pe_op ho ha hb) fun σ H Q h => (two_of sf (prim_own P h)).mono fun x H1 q => q.mono fun y H2 q => r2_of q
theorem ve_opV {op : Operator} {r : R2} (ho : OpR X (binaryOp op) r) (P : PrimV G (r2 r) p) (ha : VE G X a M k f) (hb : VE G X b M' k' g) (sf : k.safe M' = true := by rfl) : VE G X (.BinOp a op b pos) (M ++ M') (kTop [k, k']) (ePrim p (lCons f (lCons g lNil))) :=
  PE.imp (pe_op ho ha hb) fun σ H Q h => (two_of sf (prim_top P h)).mono fun x H1 q => q.mono fun y H2 q => r2_of q
theorem ve_cmp {op : CmpOp} {r : R2} (ho : OpR X (compareOp op) r) (P : PrimF G (r2 r) p) (ha : VE G X a M k f) (hb : VE G X b M' k' g) (hm : behindInMarks op b = false) (sf : k.safe M' = true := by rfl) : VE G X (.Compare a [op] [b] pos) (M ++ M') .own (ePrim p (lCons f (lCons g lNil))) :=
  PE.imp (pe_cmpR ho ha hb hm) fun σ H Q h => (two_of sf (prim_own P h)).mono fun x H1 q => q.mono fun y H2 q => r2_of q
theorem ve_un {op : UnaryOp} {r : V → Hp → VK → Prop} (ho : UnR X (unaryOp op) r) (P : PrimF G (fun vs H Q => ∃ x, vs = [x] ∧ r x H Q) p) (ha : VE G X a M k f) : VE G X (.UnaryOp op a pos) M .own (ePrim p (lCons f lNil)) :=
  PE.imp (pe_un ho ha) fun σ H Q h => (one_of (prim_own P h)).mono fun x H1 ⟨y, e, q⟩ => by cases e; exact q
theorem ve_ix {r : R2} (hr : IxR X r) (P : PrimE G (r2 r) p) (ha : VE G X a M k f) (hb : VE G X b M' k' g) (hs : PlainIx b := by intro _ _; rfl) (sf : k.safe M' = true := by rfl) : VE G X (.Subscript a b pos) (M ++ M') (kPart [k, k']) (ePrim p (lCons f (lCons g lNil))) :=
  PE.imp (pe_ix hr ha hb hs) fun σ H Q h => (two_of sf (prim_part P h)).mono fun x H1 q => q.mono fun y H2 q => r2_of q
theorem ve_callB {id : String} {x : Str} {q : Pos} {r : List V → Hp → VK → Prop} (hc : CallR X (.builtin id) r) (P : PrimF G r p) (hg : Gl X x) (hm : X.mg x = none) (hv : bootBuiltins x = some (.builtin id)) (ha : VL G X (e :: es) M ks l)
    (hn : x ≠ "__name__" := by decide) (hdb : (x == ("__debug__" : Str)) = false := by decide) (he : starEach (e :: es) X.env = (false, eval e X.env) :: starEach es X.env := by rfl) (hpl : (backTo pos (starEach es X.env)).any (·.1) = false := by rfl) :
    VE G X (.Call (.Name x q) (e :: es) [] pos) M .own (ePrim p l) :=
  PE.imp (pe_callB hc hg hm hv ha hn hdb he hpl) fun σ H Q h => prim_own P h
theorem ve_callTy {T : String} {x : Str} {q : Pos} {r : List V → Hp → VK → Prop} (hc : CallR X (.type T) r) (P : PrimV G r p) (hg : Gl X x) (hm : X.mg x = none) (hv : bootBuiltins x = some (.type T)) (ha : VL G X (e :: es) M ks l)
    (hn : x ≠ "__name__" := by decide) (hdb : (x == ("__debug__" : Str)) = false := by decide) (he : starEach (e :: es) X.env = (false, eval e X.env) :: starEach es X.env := by rfl) (hpl : (backTo pos (starEach es X.env)).any (·.1) = false := by rfl) :
    VE G X (.Call (.Name x q) (e :: es) [] pos) M (kTop ks) (ePrim p l) :=
  PE.imp (pe_callTy hc hg hm hv ha hn hdb he hpl) fun σ H Q h => prim_top P h
theorem ve_callBV {id : String} {x : Str} {q : Pos} {r : List V → Hp → VK → Prop} (hc : CallR X (.builtin id) r) (P : PrimV G r p) (hg : Gl X x) (hm : X.mg x = none) (hv : bootBuiltins x = some (.builtin id)) (ha : VL G X (e :: es) M ks l)
    (hn : x ≠ "__name__" := by decide) (hdb : (x == ("__debug__" : Str)) = false := by decide) (he : starEach (e :: es) X.env = (false, eval e X.env) :: starEach es X.env := by rfl) (hpl : (backTo pos (starEach es X.env)).any (·.1) = false := by rfl) :
    VE G X (.Call (.Name x q) (e :: es) [] pos) M (kTop ks) (ePrim p l) :=
  PE.imp (pe_callB hc hg hm hv ha hn hdb he hpl) fun σ H Q h => prim_top P h
/-- displays -/
def pTup : List D → Option D := fun ds => if sl (decide (ds.length ≤ sizeLine)) then some (.tup ds) else none
def pLst : List D → Option D := fun ds => if sl (decide (ds.length ≤ sizeLine)) then some (.lst ds) else none
theorem prim_tup : PrimV G (fun xs H Q => xs.length ≤ sizeLine ∧ ∀ p, H p = none → Q (.ref p) (upd H p (.tup xs))) pTup := fun H vs ds F Q d tb r e q => by
  unfold pTup at e
  split at e
  · rename_i hl
    replace hl := sl_iff.mp hl
    cases e
    refine ⟨by rw [rdsL_len r]; exact hl, fun p np => ?_⟩
    have c : Chg No H (upd H p (.tup vs)) := Chg.new np
    exact q _ _ F (rds_tup.mpr ⟨p, vs, rfl, SqT.of upd_same, RdsL.chg c ds vs F (fun _ _ z => z) r⟩) id (fun a ha => .inl ha) (fun a t n => by cases n) c
  · cases e
theorem prim_lst : PrimV G (fun xs H Q => xs.length ≤ sizeLine ∧ ∀ p, H p = none → Q (.ref p) (upd H p (.lst xs))) pLst := fun H vs ds F Q d tb r e q => by
  unfold pLst at e
  split at e
  · rename_i hl
    replace hl := sl_iff.mp hl
    cases e
    refine ⟨by rw [rdsL_len r]; exact hl, fun p np => ?_⟩
    have c : Chg No H (upd H p (.lst vs)) := Chg.new np
    have nF : p ∉ F := fun hp => by
      obtain ⟨o, eo, _⟩ := RdsL.trk ds vs F r p hp
      rw [np] at eo
      cases eo
    refine q _ _ (p :: F) (rds_lst.mpr ⟨p, vs, F, rfl, upd_same, RdsL.chg c ds vs F (fun _ _ z => z) r, rfl⟩) (fun nd => List.nodup_cons.mpr ⟨nF, nd⟩) (fun a ha => ?_) (fun a t n e => ?_) c
    · rcases List.mem_cons.mp ha with rfl | ha
      · exact .inr np
      · exact .inl ha
    · cases e
      exact np
  · cases e
theorem ve_tup {x1} (h : VL G X es M ks l) : VE G X (.Tuple es x1 pos) M (kTop ks) (ePrim pTup l) := PE.imp (pe_tup h) fun σ H Q h => prim_top prim_tup h
theorem ve_lst (h : VL G X es M ks l) : VE G X (.List es pos) M (kTop ks) (ePrim pLst l) := PE.imp (pe_lst h) fun σ H Q h => prim_top prim_lst h
/-! ### tests -/
abbrev TF := Env → Option (Bool × Env)
def tVT (G : Gb) (M : List Nat) (f : TF) : TT := fun σ H Q => ∃ C E Fs, Rel G C H σ E Fs ∧ ∃ b E', f E = some (b, E') ∧ ∀ H' Fs', Rel G C H' σ E' Fs' → Stp M H H' E E' Fs Fs' → Q b H'
abbrev VT (G : Gb) (X : Cx) (e : Expr) (M : List Nat) (f : TF) : Prop := PT X e (tVT G M f)
abbrev VW (G : Gb) (X : Cx) (e : Expr) (M : List Nat) (f : TF) : Prop := PW X e (tVT G M f)
def toT (f : EF) : TF := fun E => match f E with
  | some (.bl b, E') => some (b, E')
  | _ => none
theorem tV_of_T {Q : Bool → Hp → Prop} (h : tVT G M (toT f) σ H Q) : tV G M k f σ H fun x H' => ∃ b, x = .bl b ∧ Q b H' := by
  obtain ⟨C, E, Fs, R, b, E', e, q⟩ := h
  unfold toT at e
  split at e
  · rename_i b' E1 e1
    cases e
    exact ⟨C, E, Fs, R, _, _, e1, fun v H' Fs' F R' s' r' _ => ⟨b, (rds_bl.mp r').1, q H' Fs' R' s'⟩⟩
  · cases e
theorem vt_val (he : VE G X e M k f) (hi : ∀ whole, isTrue e X.env whole = (do let v ← whole; standAt e.pos; holding [v] (truthy v)) := by intro _; rfl) : VT G X e M (toT f) :=
  PT.imp (pt_val he hi) fun σ H Q h => tV_of_T h
theorem vt_cmp {op : CmpOp} {r : R2} (ho : OpR X (compareOp op) r) (P : PrimF G (r2 r) p) (ha : VE G X a M k f) (hb : VE G X b M' k' g) (hm : behindInMarks op b = false) (sf : k.safe M' = true := by rfl) : VT G X (.Compare a [op] [b] pos) (M ++ M') (toT (ePrim p (lCons f (lCons g lNil)))) :=
  PT.imp (pt_cmpR ho ha hb hm) fun σ H Q h => (two_of sf (prim_own P (tV_of_T h))).mono fun x H1 q => q.mono fun y H2 q => r2_of q
/-- and, or, not -/
def tfAnd (f g : TF) : TF := fun E => match f E with
  | some (true, E') => g E'
  | some (false, E') => some (false, E')
  | none => none
def tfOr (f g : TF) : TF := fun E => match f E with
  | some (false, E') => g E'
  | some (true, E') => some (true, E')
  | none => none
def tfNot (f : TF) : TF := fun E => match f E with
  | some (b, E') => some (!b, E')
  | none => none
variable {t u : TF} {rest : List Expr}
theorem and_of {Q : Bool → Hp → Prop} (h : tVT G (M ++ M') (tfAnd t u) σ H Q) : tAnd (tVT G M t) (tVT G M' u) σ H Q := by
  obtain ⟨C, E, Fs, R, b, E', e, q⟩ := h
  unfold tfAnd at e
  split at e
  · rename_i E1 e1
    refine ⟨C, E, Fs, R, true, E1, e1, fun H' Fs' R' s' => ?_⟩
    refine ite_tt ?_
    exact ⟨C, E1, Fs', R', b, E', e, fun H2 Fs2 R2 s2 => q H2 Fs2 R2 (s'.trans s2)⟩
  · rename_i E1 e1
    cases e
    exact ⟨C, E, Fs, R, false, _, e1, fun H' Fs' R' s' => q H' Fs' R' (s'.mono fun i hi => List.mem_append_left _ hi)⟩
  · cases e
theorem or_of {Q : Bool → Hp → Prop} (h : tVT G (M ++ M') (tfOr t u) σ H Q) : tOr (tVT G M t) (tVT G M' u) σ H Q := by
  obtain ⟨C, E, Fs, R, b, E', e, q⟩ := h
  unfold tfOr at e
  split at e
  · rename_i E1 e1
    refine ⟨C, E, Fs, R, false, E1, e1, fun H' Fs' R' s' => ?_⟩
    refine ite_ff ?_
    exact ⟨C, E1, Fs', R', b, E', e, fun H2 Fs2 R2 s2 => q H2 Fs2 R2 (s'.trans s2)⟩
  · rename_i E1 e1
    cases e
    exact ⟨C, E, Fs, R, true, _, e1, fun H' Fs' R' s' => q H' Fs' R' (s'.mono fun i hi => List.mem_append_left _ hi)⟩
  · cases e
theorem PW.imp {X : Cx} {e : Expr} {t t' : TT} (h : PW X e t) (i : ∀ σ H Q, t' σ H Q → t σ H Q) : PW X e t' := ⟨fun w pins s σ H Q I q => h.run w pins s σ H Q I (i σ H Q q)⟩
theorem vw_and1 (h : VT G X a M t) : VW G X (.BoolOp .And [a] pos) M t := pw_and1 h
theorem vw_or1 (h : VT G X a M t) : VW G X (.BoolOp .Or [a] pos) M t := pw_or1 h
theorem vw_and (ha : VT G X a M t) (hb : VW G X (.BoolOp .And (b :: rest) pos) M' u) : VW G X (.BoolOp .And (a :: b :: rest) pos) (M ++ M') (tfAnd t u) := PW.imp (pw_and ha hb) fun σ H Q h => and_of h
theorem vw_or (ha : VT G X a M t) (hb : VW G X (.BoolOp .Or (b :: rest) pos) M' u) : VW G X (.BoolOp .Or (a :: b :: rest) pos) (M ++ M') (tfOr t u) := PW.imp (pw_or ha hb) fun σ H Q h => or_of h
theorem vt_w (h : VW G X e M t) : VT G X e M t := h.pt
theorem vt_not (h : VT G X a M t) : VT G X (.UnaryOp .Not a pos) M (tfNot t) := PT.imp (pt_not h) fun σ H Q ⟨C, E, Fs, R, b, E', e, q⟩ => by
  unfold tfNot at e
  split at e
  · rename_i b' E1 e1
    cases e
    exact ⟨C, E, Fs, R, b', _, e1, q⟩
  · cases e
/-- a if t else b -/
def eIf (t : TF) (f g : EF) : EF := fun E => match t E with
  | some (true, E') => f E'
  | some (false, E') => g E'
  | none => none
def kIf (k k' : Kind) : Kind := if k = k' then k else match k, k' with
  | .own, .top S => .top S
  | .top S, .own => .top S
  | _, _ => .vw (k.S ++ k'.S)
theorem Vw.sup {H : Hp} {E : Env} {Fs : Nat → List Addr} {S S' : List Nat} {F : List Addr} (h : Vw H E Fs S F) (i : ∀ x ∈ S, x ∈ S') : Vw H E Fs S' F := fun a ha => by
  rcases h a ha with ⟨j, hj, z⟩ | z
  · exact .inl ⟨j, i j hj, z⟩
  · exact .inr z
theorem KOk.own_top {σ : L2.St} {v : V} {H : Hp} {E : Env} {Fs : Nat → List Addr} {S : List Nat} {d : D} {F : List Addr} (h : KOk σ H E Fs .own d v F) : KOk σ H E Fs (.top S) d v F :=
  ⟨h.2.sup (fun _ hx => by cases hx), fun a r n e => by
    rcases h.2 a (by rw [e]; exact List.mem_cons_self) with ⟨_, z, _⟩ | z
    · cases z
    · exact z⟩
theorem kIf_l {v : V} {H : Hp} {E : Env} {Fs : Nat → List Addr} {d : D} {F : List Addr} (h : KOk σ H E Fs k d v F) : KOk σ H E Fs (kIf k k') d v F := by
  unfold kIf
  split
  · exact h
  · cases k <;> cases k' <;> first | exact h.own_top | exact h | exact h.vw.sup (fun x hx => List.mem_append_left _ hx)
theorem kIf_r {v : V} {H : Hp} {E : Env} {Fs : Nat → List Addr} {d : D} {F : List Addr} (h : KOk σ H E Fs k' d v F) : KOk σ H E Fs (kIf k k') d v F := by
  unfold kIf
  split
  · rename_i e
    rw [e]
    exact h
  · cases k <;> cases k' <;> first | exact h.own_top | exact h | exact h.vw.sup (fun x hx => List.mem_append_right _ hx)
theorem ve_if (hc : VT G X c M t) (ha : VE G X a M' k f) (hb : VE G X b M2 k' g) : VE G X (.IfExp c a b pos) (M ++ (M' ++ M2)) (kIf k k') (eIf t f g) := PE.imp (pe_ifExp hc ha hb) fun σ H Q ⟨C, E, Fs, R, d, E', e, q⟩ => by
  unfold eIf at e
  split at e
  · rename_i E1 e1
    refine ⟨C, E, Fs, R, true, E1, e1, fun H1 Fs1 R1 s1 => ?_⟩
    refine ite_tt ?_
    exact ⟨C, E1, Fs1, R1, d, E', e, fun v H2 Fs2 F R2 s2 r2 k2 => q v H2 Fs2 F R2 ((s1.trans s2).mono fun i hi => by simp only [List.mem_append] at hi ⊢; rcases hi with z | z; exact .inl z; exact .inr (.inl z)) r2 (kIf_l (k2.base s1.chg))⟩
  · rename_i E1 e1
    refine ⟨C, E, Fs, R, false, E1, e1, fun H1 Fs1 R1 s1 => ?_⟩
    refine ite_ff ?_
    exact ⟨C, E1, Fs1, R1, d, E', e, fun v H2 Fs2 F R2 s2 r2 k2 => q v H2 Fs2 F R2 ((s1.trans s2).mono fun i hi => by simp only [List.mem_append] at hi ⊢; rcases hi with z | z; exact .inl z; exact .inr (.inr z)) r2 (kIf_r (k2.base s1.chg))⟩
  · cases e
end
end
end VL
set_option maxHeartbeats 4000000
namespace VL
noncomputable section
open PySem PySem.Spec PyProof.Rows L2
open GxR (TabB TabG Tabbed)
section
variable {G : Gb} {X : Cx}
/-! ### where the value is one -/
theorem ix_dict (hu : X.A.units + 1 < cLine) : IxR X (fun x y H Q => ∃ a v, x = .ref a ∧ DGet H a y (some v) ∧ Q v H) := by
  intro value slice pins s σ H x y v u Q I rx ry h hs
  obtain ⟨a, z, rfl, g, q⟩ := h
  cases rx
  unfold subscriptTail
  refine wpAny_bind ?_
  have hT := dict_typeIs I g
  rw [getitemInPython_of_ne hT.not_modules]
  refine wpAny_bind (wpAny_specialOf hT PySem.F.slot_dict_getitem.lookup ?_)
  have fin : wpAny (model X.prog X.w) X.A (subscripted slice false (.ref a) u) (fun r s₃ => wpAny (model X.prog X.w) X.A (letTemporaryGo value (.ref a) r >>= fun _ => pure r) (EP X pins σ Q) X.xe s₃) X.xe s := by
    rw [hs]
    exact wpAny_operating (d_getItem hu I g ry fun w' s3 I3 rw' => wpAny_bind (wpAny_letTemporaryGo (wpAny_pure ⟨z, H, I3, rw', q⟩)))
  first
    | exact wpAny_pure (wpAny_bind fin)
    | exact wpAny_bind (wpAny_pure (wpAny_bind fin))
    | exact wpAny_bind fin
theorem op_inDict (hu : X.A.units + 1 < cLine) : OpR X (compareOp .In) (fun y x H Q => ∃ a o, x = .ref a ∧ DGet H a y o ∧ Q (.bl o.isSome) H) := by
  intro pins s σ H y x u v Q I ry rx h
  obtain ⟨a, o, rfl, g, q⟩ := h
  cases rx
  exact d_in hu I g ry fun s3 I3 => ⟨.bl o.isSome, H, I3, rfl, q⟩
theorem op_notInDict (hu : X.A.units + 1 < cLine) : OpR X (compareOp .NotIn) (fun y x H Q => ∃ a o, x = .ref a ∧ DGet H a y o ∧ Q (.bl (!o.isSome)) H) := by
  intro pins s σ H y x u v Q I ry rx h
  obtain ⟨a, o, rfl, g, q⟩ := h
  cases rx
  exact d_notIn hu I g ry fun s3 I3 => ⟨.bl (!o.isSome), H, I3, rfl, q⟩
/-! ### ints -/
/-- what is made of two ints, an atom -/
def pI2 (c : Int → Int → Bool) (g : Int → Int → D) : List D → Option D
  | [.int i, .int j] => if sl (c i j) then some (g i j) else none
  | _ => none
theorem q_atom {H : Hp} {Q : VK} {d : D} {v : V} (r : ∀ G H, Rds G H d v []) (q : ∀ v H' A, Rds G H' d v A → A.Nodup → (∀ a ∈ A, H a = none) → Chg No H H' → Q v H') : Q v H :=
  q v H [] (r G H) List.nodup_nil (fun a ha => by cases ha) (Chg.refl _ _)
theorem prim_I2 {c : Int → Int → Bool} {Cp : Int → Int → Prop} {g : Int → Int → D} {gv : Int → Int → V} (hc : ∀ i j, c i j = true → Cp i j) (hg : ∀ i j G H, Rds G H (g i j) (gv i j) []) : PrimF G (r2 (rI Cp gv)) (pI2 c g) := fun H vs ds F Q d tb r e q => by
  unfold pI2 at e
  split at e
  · rename_i i j
    split at e
    · rename_i h
      rw [sl_eq] at h
      cases e
      obtain ⟨x, y, A, B, rfl, rfl, h1, h2⟩ := rdsL2 r
      exact ⟨x, y, rfl, i, j, (rds_int.mp h1).1, (rds_int.mp h2).1, hc i j h, q_atom (hg i j) q⟩
    · cases e
  · cases e
theorem prim_I20 {g : Int → Int → D} {gv : Int → Int → V} (hg : ∀ i j G H, Rds G H (g i j) (gv i j) []) : PrimF G (r2 (rI0 gv)) (pI2 (fun _ _ => true) g) := fun H vs ds F Q d tb r e q => by
  unfold pI2 at e
  split at e
  · rename_i i j
    simp only [sl_eq, if_true] at e
    cases e
    obtain ⟨x, y, A, B, rfl, rfl, h1, h2⟩ := rdsL2 r
    exact ⟨x, y, rfl, i, j, (rds_int.mp h1).1, (rds_int.mp h2).1, q_atom (hg i j) q⟩
  · cases e
theorem hInt (i : Int) : ∀ G H, Rds G H (.int i) (.int i) [] := fun _ _ => rds_int.mpr ⟨rfl, rfl⟩
theorem hBl (i : Bool) : ∀ G H, Rds G H (.bl i) (.bl i) [] := fun _ _ => rds_bl.mpr ⟨rfl, rfl⟩
abbrev pSub := pI2 (fun _ _ => true) fun i j => .int (i - j)
abbrev pFdiv := pI2 (fun _ j => decide (0 < j ∧ j < 1073741824)) fun i j => .int (i / j)
abbrev pMod := pI2 (fun _ j => decide (0 < j)) fun i j => .int (i % j)
abbrev pPow := pI2 (fun i j => decide (0 ≤ j ∧ j ≤ 1000000 ∧ i.natAbs < 2 ^ 64)) fun i j => .int (i ^ j.toNat)
abbrev pXor := pI2 (fun _ _ => true) fun i j => .int (Builtin.bitXor i j)
abbrev pLt := pI2 (fun _ _ => true) fun i j => .bl (decide (i < j))
abbrev pLe := pI2 (fun _ _ => true) fun i j => .bl (decide (i ≤ j))
abbrev pGt := pI2 (fun _ _ => true) fun i j => .bl (decide (j < i))
abbrev pGe := pI2 (fun _ _ => true) fun i j => .bl (decide (j ≤ i))
theorem prim_sub : PrimF G (r2 (rI0 fun i j => .int (i - j))) pSub := prim_I20 fun _ _ => hInt _
theorem prim_fdiv : PrimF G (r2 (rI CDiv fun i j => .int (i / j))) pFdiv := prim_I2 (fun i j h => show 0 < j ∧ j < 1073741824 from of_decide_eq_true h) fun _ _ => hInt _
theorem prim_mod : PrimF G (r2 (rI (fun _ j => 0 < j) fun i j => .int (i % j))) pMod := prim_I2 (fun i j h => of_decide_eq_true h) fun _ _ => hInt _
theorem prim_pow : PrimF G (r2 (rI CPow fun i j => .int (i ^ j.toNat))) pPow := prim_I2 (fun i j h => show 0 ≤ j ∧ j ≤ 1000000 ∧ i.natAbs < 2 ^ 64 from of_decide_eq_true h) fun _ _ => hInt _
theorem prim_xor : PrimF G (r2 (rI0 fun i j => .int (Builtin.bitXor i j))) pXor := prim_I20 fun _ _ => hInt _
theorem prim_lt : PrimF G (r2 (rI0 fun i j => .bl (decide (i < j)))) pLt := prim_I20 fun _ _ => hBl _
theorem prim_le : PrimF G (r2 (rI0 fun i j => .bl (decide (i ≤ j)))) pLe := prim_I20 fun _ _ => hBl _
theorem prim_gt : PrimF G (r2 (rI0 fun i j => .bl (decide (j < i)))) pGt := prim_I20 fun _ _ => hBl _
theorem prim_ge : PrimF G (r2 (rI0 fun i j => .bl (decide (j ≤ i)))) pGe := prim_I20 fun _ _ => hBl _
def pNeg : List D → Option D
  | [.int i] => some (.int (-i))
  | _ => none
theorem prim_neg : PrimF G (fun vs H Q => ∃ x, vs = [x] ∧ (rU fun i => .int (-i)) x H Q) pNeg := fun H vs ds F Q d tb r e q => by
  unfold pNeg at e
  split at e
  · rename_i i
    cases e
    obtain ⟨x, rfl, h1⟩ := rdsL1 r
    exact ⟨x, rfl, i, (rds_int.mp h1).1, q_atom (hInt _) q⟩
  · cases e
/-! ### + and * -/
def pAdd : List D → Option D
  | [.int i, .int j] => some (.int (i + j))
  | [.lst xs, .lst ys] => if sl (decide (xs.length + ys.length ≤ sizeLine)) then some (.lst (xs ++ ys)) else none
  | [.str x, .str y] => if sl (decide (x.length + y.length ≤ sizeLine)) then some (.str (x ++ y)) else none
  | _ => none
abbrev rAddAll : R2 := fun x y H Q => (rI0 fun i j => .int (i + j)) x y H Q ∨ (rCat x y H Q ∨ ∃ i j, x = .str i ∧ y = .str j ∧ i.length + j.length ≤ sizeLine ∧ Q (.str (i ++ j)) H)
theorem op_addAll : OpR X (binaryOp .Add) rAddAll := op_add.or (op_cat.or op_add_str)
theorem prim_add : PrimV G (r2 rAddAll) pAdd := fun H vs ds F Q d tb r e q => by
  unfold pAdd at e
  split at e
  · cases e
    obtain ⟨x, y, A, B, rfl, rfl, h1, h2⟩ := rdsL2 r
    exact ⟨x, y, rfl, .inl ⟨_, _, (rds_int.mp h1).1, (rds_int.mp h2).1, q _ H [] (hInt _ _ _) (fun _ => List.nodup_nil) (fun a ha => by cases ha) (fun a t n => by cases n) (Chg.refl _ _)⟩⟩
  · split at e
    · rename_i xs ys hl
      replace hl := sl_iff.mp hl
      cases e
      obtain ⟨x, y, A, B, rfl, rfl, h1, h2⟩ := rdsL2 r
      obtain ⟨a, us, A', rfl, h3, h4, rfl⟩ := rds_lst.mp h1
      obtain ⟨b, ws, B', rfl, h5, h6, rfl⟩ := rds_lst.mp h2
      refine ⟨_, _, rfl, .inr (.inl ⟨a, b, us, ws, rfl, rfl, h3, h5, by rw [rdsL_len h4, rdsL_len h6]; exact hl, fun p np => ?_⟩)⟩
      have c : Chg No H (upd H p (.lst (us ++ ws))) := Chg.new np
      have nt : ∀ z, z ∈ A' ++ B' → p ≠ z := fun z hz e => by
        obtain ⟨o, eo, _⟩ := RdsL.trk _ _ _ (rdsL_app h4 h6) z hz
        rw [← e, np] at eo
        cases eo
      refine q _ _ (p :: (A' ++ B')) (rds_lst.mpr ⟨p, _, _, rfl, upd_same, RdsL.chg c _ _ _ (fun _ _ z => z) (rdsL_app h4 h6), rfl⟩) (fun nd => ?_) (fun z hz => ?_) (fun z t n e => ?_) c
      · have sb : (A' ++ B').Sublist (a :: A' ++ b :: B') := by
          refine List.Sublist.append (List.sublist_cons_self ..) (List.sublist_cons_self ..)
        exact List.nodup_cons.mpr ⟨fun hz => nt p hz rfl, sb.nodup nd⟩
      · rcases List.mem_cons.mp hz with rfl | hz
        · exact .inr np
        · refine .inl ?_
          rcases List.mem_append.mp hz with hz | hz
          · exact List.mem_append_left _ (List.mem_cons_of_mem _ hz)
          · exact List.mem_append_right _ (List.mem_cons_of_mem _ hz)
      · cases e
        exact np
    · cases e
  · split at e
    · rename_i x0 y0 hl
      replace hl := sl_iff.mp hl
      cases e
      obtain ⟨x, y, A, B, rfl, rfl, h1, h2⟩ := rdsL2 r
      exact ⟨x, y, rfl, .inr (.inr ⟨_, _, (rds_str.mp h1).1, (rds_str.mp h2).1, hl, q _ H [] (rds_str.mpr ⟨rfl, rfl⟩) (fun _ => List.nodup_nil) (fun a ha => by cases ha) (fun a t n => by cases n) (Chg.refl _ _)⟩)⟩
    · cases e
  · cases e
/-- a list of atoms, many times; two ints -/
def pMul : List D → Option D
  | [.int i, .int j] => if sl (decide ((-(2 ^ 64) < i ∧ i < 2 ^ 64) ∨ (-(2 ^ 64) < j ∧ j < 2 ^ 64))) then some (.int (i * j)) else none
  | [.lst xs, .int k] => if sl (decide (D.atomL xs = true ∧ -(2 ^ 63) ≤ k ∧ k < 2 ^ 63 ∧ xs.length * k.toNat ≤ sizeLine)) then some (.lst (List.replicate k.toNat xs).flatten) else none
  | _ => none
theorem rdsL_rep {H : Hp} {ds : List D} {vs : List V} (h : RdsL G H ds vs []) : ∀ k : Nat, RdsL G H (List.replicate k ds).flatten (List.replicate k vs).flatten []
  | 0 => rdsL_nil.mpr ⟨rfl, rfl⟩
  | k + 1 => by
    rw [List.replicate_succ, List.flatten_cons, List.replicate_succ, List.flatten_cons]
    exact rdsL_app h (rdsL_rep h k)
theorem q_new {H : Hp} {Q : VK} {d : D} {ds : List D} {vs : List V} {p : Addr} (np : H p = none) (r : RdsL G H ds vs []) (q : ∀ v H' A, Rds G H' (.lst ds) v A → A.Nodup → (∀ a ∈ A, H a = none) → Chg No H H' → Q v H') : Q (.ref p) (upd H p (.lst vs)) := by
  have c : Chg No H (upd H p (.lst vs)) := Chg.new np
  refine q _ _ [p] (rds_lst.mpr ⟨p, vs, [], rfl, upd_same, RdsL.chg c ds vs [] (fun _ _ z => z) r, rfl⟩) (by simp) (fun a ha => ?_) c
  rw [List.mem_singleton.mp ha]
  exact np
abbrev rMulAll : R2 := fun x y H Q => (rI CMul fun i j => .int (i * j)) x y H Q ∨ rRep x y H Q
theorem op_mulAll : OpR X (binaryOp .Mult) rMulAll := op_mul.or op_rep
theorem prim_mul : PrimF G (r2 rMulAll) pMul := fun H vs ds F Q d tb r e q => by
  unfold pMul at e
  split at e
  · split at e
    · rename_i i j hc
      cases e
      obtain ⟨x, y, A, B, rfl, rfl, h1, h2⟩ := rdsL2 r
      exact ⟨x, y, rfl, .inl ⟨_, _, (rds_int.mp h1).1, (rds_int.mp h2).1, show (-(2 ^ 64) < i ∧ i < 2 ^ 64) ∨ (-(2 ^ 64) < j ∧ j < 2 ^ 64) from sl_iff.mp hc, q_atom (hInt _) q⟩⟩
    · cases e
  · split at e
    · rename_i xs k hc
      obtain ⟨c1, c2, c3, c4⟩ := sl_iff.mp hc
      cases e
      obtain ⟨x, y, A, B, rfl, rfl, h1, h2⟩ := rdsL2 r
      obtain ⟨a, us, A', rfl, h3, h4, rfl⟩ := rds_lst.mp h1
      have eA := RdsL.atom xs us A' c1 h4
      subst eA
      refine ⟨_, _, rfl, .inr ⟨a, k, us, rfl, (rds_int.mp h2).1, h3, c2, c3, by rw [rdsL_len h4]; exact c4, fun p np => ?_⟩⟩
      exact q_new (d := .non) np (rdsL_rep h4 k.toNat) q
    · cases e
  · cases e
/-! ### == -/
def pEqv (neg : Bool) : List D → Option D
  | [.int i, .int j] => some (.bl (if neg then !decide (i = j) else decide (i = j)))
  | [x, y] => match x.py, y.py with
    | some p, some q => if SeqAt.shaped p && SeqAt.shaped q then some (.bl (if neg then !PyData.eqv p q else PyData.eqv p q)) else none
    | _, _ => none
  | _ => none
theorem pEqv_gen {neg : Bool} {ds : List D} {d : D} (h : pEqv neg ds = some d) : ∃ x y p q, ds = [x, y] ∧ x.py = some p ∧ y.py = some q ∧ SeqAt.shaped p = true ∧ SeqAt.shaped q = true ∧ d = .bl (if neg then !PyData.eqv p q else PyData.eqv p q) := by
  unfold pEqv at h
  split at h
  · rename_i i j
    cases h
    refine ⟨_, _, _, _, rfl, by rw [D.py], by rw [D.py], rfl, rfl, ?_⟩
    have e : PyData.eqv (.int i) (.int j) = decide (i = j) := TA.eqv_int i j
    rw [e]
  · split at h
    · rename_i p q e1 e2
      split at h
      · rename_i hs
        rw [Bool.and_eq_true] at hs
        cases h
        exact ⟨_, _, p, q, rfl, e1, e2, hs.1, hs.2, rfl⟩
      · cases h
    · cases h
  · cases h
theorem prim_eq (hK : X.K = G.K) : PrimF G (r2 (rEqD X.K)) (pEqv false) := fun H vs ds F Q d tb r e q => by
  obtain ⟨x, y, p1, p2, rfl, e1, e2, s1, s2, rfl⟩ := pEqv_gen e
  obtain ⟨u, w, A, B, rfl, rfl, h1, h2⟩ := rdsL2 r
  rw [hK]
  exact ⟨u, w, rfl, p1, p2, Rds.dp _ _ _ _ e1 h1, Rds.dp _ _ _ _ e2 h2, s1, s2, q_atom (hBl _) q⟩
theorem prim_ne (hK : X.K = G.K) : PrimF G (r2 (rNeD X.K)) (pEqv true) := fun H vs ds F Q d tb r e q => by
  obtain ⟨x, y, p1, p2, rfl, e1, e2, s1, s2, rfl⟩ := pEqv_gen e
  obtain ⟨u, w, A, B, rfl, rfl, h1, h2⟩ := rdsL2 r
  rw [hK]
  exact ⟨u, w, rfl, p1, p2, Rds.dp _ _ _ _ e1 h1, Rds.dp _ _ _ _ e2 h2, s1, s2, q_atom (hBl _) q⟩
def D.isNon : D → Bool
  | .non => true
  | _ => false
def pIsN (neg : Bool) : List D → Option D
  | [x, .non] => some (.bl (if neg then !x.isNon else x.isNon))
  | _ => none
theorem isNon_of {H : Hp} {d : D} {v : V} {F : List Addr} (r : Rds G H d v F) : decide (v = .non) = d.isNon := by
  cases d with
  | non => rw [(rds_non.mp r).1]; rfl
  | bl b => rw [(rds_bl.mp r).1]; rfl
  | int b => rw [(rds_int.mp r).1]; rfl
  | str b => rw [(rds_str.mp r).1]; rfl
  | tup b => obtain ⟨a, xs, rfl, _⟩ := rds_tup.mp r; rfl
  | lst b => obtain ⟨a, xs, A, rfl, _⟩ := rds_lst.mp r; rfl
  | dct b c => obtain ⟨a, xs, A, rfl, _⟩ := rds_dct.mp r; rfl
  | obj b c e => unfold Rds at r; obtain ⟨a, dx, us, A, rfl, _⟩ := r; rfl
  | scr b => obtain ⟨a, rfl, _⟩ := rds_scr.mp r; rfl
theorem prim_isN : PrimF G (r2 fun x y H Q => y = .non ∧ Q (.bl (decide (x = .non))) H) (pIsN false) := fun H vs ds F Q d tb r e q => by
  unfold pIsN at e
  split at e
  · cases e
    obtain ⟨x, y, A, B, rfl, rfl, h1, h2⟩ := rdsL2 r
    exact ⟨x, y, rfl, (rds_non.mp h2).1, by rw [isNon_of h1]; exact q_atom (hBl _) q⟩
  · cases e
theorem prim_notN : PrimF G (r2 fun x y H Q => y = .non ∧ Q (.bl (!decide (x = .non))) H) (pIsN true) := fun H vs ds F Q d tb r e q => by
  unfold pIsN at e
  split at e
  · cases e
    obtain ⟨x, y, A, B, rfl, rfl, h1, h2⟩ := rdsL2 r
    exact ⟨x, y, rfl, (rds_non.mp h2).1, by rw [isNon_of h1]; exact q_atom (hBl _) q⟩
  · cases e
/-! ### items -/
def D.items : D → Option (List D)
  | .lst ds => some ds
  | .tup ds => some ds
  | .scr ns => some (ns.map .int)
  | _ => none
def keyD : D → Option Key
  | .int i => some (.inl i)
  | .str s => some (.inr s)
  | _ => none
/-- the value at a key -/
def atK : List Key → List D → Key → Option D
  | k' :: ks, d :: ds, k => if k' = k then some d else atK ks ds k
  | _, _, _ => none
theorem rdsL_atK {H : Hp} {k : Key} : ∀ {us : List (Key × V)} {ds : List D} {F : List Addr}, RdsL G H ds (us.map (·.2)) F → (∀ d, atK (us.map (·.1)) ds k = some d → ∃ v A, valV us k = some v ∧ Rds G H d v A ∧ A.Sublist F) ∧ (atK (us.map (·.1)) ds k = none → valV us k = none)
  | [], ds, F, h => by
    have e := rdsL_len h
    cases ds with
    | nil => exact ⟨fun d e => (by unfold atK at e; cases e), fun _ => rfl⟩
    | cons d ds => simp at e
  | (k', v) :: us, ds, F, h => by
    cases ds with
    | nil => exact absurd (rdsL_len h) (by simp)
    | cons d ds =>
      obtain ⟨x, r, A, B, e, rfl, h1, h2⟩ := rdsL_cons.mp h
      cases e
      have ih := rdsL_atK (k := k) h2
      simp only [List.map_cons, atK]
      by_cases hk : k' = k
      · rw [if_pos hk, valV_pos (p := (k', v)) hk]
        refine ⟨fun d' e => ?_, fun e => by cases e⟩
        cases e
        exact ⟨v, A, rfl, h1, List.sublist_append_left ..⟩
      · rw [if_neg hk, valV_neg (p := (k', v)) hk]
        refine ⟨fun d' e => ?_, ih.2⟩
        obtain ⟨v', A', e1, e2, e3⟩ := ih.1 d' e
        exact ⟨v', A', e1, e2, e3.trans (List.sublist_append_right ..)⟩
theorem rds_key {H : Hp} {d : D} {k : Key} {v : V} {F : List Addr} (e : keyD d = some k) (r : Rds G H d v F) : v = kV k := by
  cases d <;> unfold keyD at e <;> first | cases e | skip
  · exact (rds_int.mp r).1
  · exact (rds_str.mp r).1
def pIx : List D → Option D
  | [.lst ds, .int i] => atI ds i
  | [.tup ds, .int i] => atI ds i
  | [.scr ns, .int i] => (atI ns i).map .int
  | [.dct ks ds, k] => (keyD k).bind fun k => atK ks ds k
  | _ => none
abbrev rIxAll (K : PySem.W.Frag) : R2 := fun x y H Q => rIx K x y H Q ∨ ∃ a v, x = .ref a ∧ DGet H a y (some v) ∧ Q v H
theorem ix_all (x : XOk G X) : IxR X (rIxAll X.K) := ix_seq.or (ix_dict (by have := x.un; omega))
theorem atI_rds {H : Hp} {ds : List D} {vs : List V} {F : List Addr} {i : Int} {d : D} (r : RdsL G H ds vs F) (e : atI ds i = some d) : ∃ v A, atI vs i = some v ∧ Rds G H d v A ∧ A.Sublist F := by
  unfold atI at e ⊢
  rw [rdsL_len r]
  cases h : ixN ds.length i with
  | none => rw [h] at e; cases e
  | some j =>
    rw [h] at e
    obtain ⟨v, A, h1, h2, h3⟩ := rdsL_get r (show ds[j]? = some d from e)
    exact ⟨v, A, h1, h2, h3⟩
theorem atI_map {α β : Type} (f : α → β) (xs : List α) (i : Int) : atI (xs.map f) i = (atI xs i).map f := by
  unfold atI
  rw [List.length_map]
  cases ixN xs.length i with
  | none => rfl
  | some j => simp
theorem prim_ix (hK : X.K = G.K) : PrimE G (r2 (rIxAll X.K)) pIx := fun H d1 v1 F1 vs ds F Q d tb r1 r e q => by
  rw [hK]
  unfold pIx at e
  split at e
  · rename_i xs i heq
    cases heq
    obtain ⟨y, rfl, h2⟩ := rdsL1 r
    obtain ⟨a, us, A', rfl, h3, h4, rfl⟩ := rds_lst.mp r1
    obtain ⟨v, A, h5, h6, h7⟩ := atI_rds h4 e
    exact ⟨_, y, rfl, .inl (.inl ⟨a, us, i, v, rfl, (rds_int.mp h2).1, SqL.of h3, h5, q v H A h6 (h7.trans (List.sublist_cons_self ..)) (Chg.refl _ _)⟩)⟩
  · rename_i xs i heq
    cases heq
    obtain ⟨y, rfl, h2⟩ := rdsL1 r
    obtain ⟨a, us, rfl, h3, h4⟩ := rds_tup.mp r1
    obtain ⟨v, A, h5, h6, h7⟩ := atI_rds h4 e
    exact ⟨_, y, rfl, .inl (.inr (.inl ⟨a, us, i, v, rfl, (rds_int.mp h2).1, h3, h5, q v H A h6 h7 (Chg.refl _ _)⟩))⟩
  · rename_i ns i heq
    cases heq
    obtain ⟨y, rfl, h2⟩ := rdsL1 r
    obtain ⟨a, rfl, h3, rfl⟩ := rds_scr.mp r1
    cases h : atI ns i with
    | none => rw [h] at e; cases e
    | some n =>
      rw [h] at e
      cases e
      exact ⟨_, y, rfl, .inl (.inl ⟨a, _, i, .int n, rfl, (rds_int.mp h2).1, h3.sql, by rw [atI_map, h]; rfl, q _ H [] (hInt _ _ _) (List.Sublist.refl _) (Chg.refl _ _)⟩)⟩
  · rename_i ks xs k heq
    cases heq
    obtain ⟨y, rfl, h2⟩ := rdsL1 r
    obtain ⟨a, us, A', rfl, h3, ⟨rfl, hnd⟩, h4, rfl⟩ := rds_dct.mp r1
    cases hk : keyD k with
    | none => rw [hk] at e; cases e
    | some k' =>
      rw [hk] at e
      obtain ⟨v, A, h5, h6, h7⟩ := (rdsL_atK h4).1 d e
      have ey := rds_key hk h2
      subst ey
      refine ⟨_, _, rfl, .inr ⟨a, v, rfl, ?_, q v H A h6 (h7.trans (List.sublist_cons_self ..)) (Chg.refl _ _)⟩⟩
      rw [← h5]
      exact DGet.k h3
  · cases e
theorem ve_sub (x : XOk G X) {a b : Expr} {M M' : List Nat} {k k' : Kind} {f g : EF} {pos : Pos} (ha : VE G X a M k f) (hb : VE G X b M' k' g) (hs : PlainIx b := by intro _ _; rfl) (sf : k.safe M' = true := by rfl) : VE G X (.Subscript a b pos) (M ++ M') (kPart [k, k']) (ePrim pIx (lCons f (lCons g lNil))) :=
  ve_ix (ix_all x) (prim_ix x.K) ha hb hs sf
/-! ### slices -/
def cutD (xs : List D) (lo hi : Option Int) : List D := (xs.drop (HT.sIx xs.length 0 lo)).take (HT.sIx xs.length xs.length hi - HT.sIx xs.length 0 lo)
theorem rdsL_drop {H : Hp} : ∀ {ds : List D} {vs : List V} {F : List Addr} (n : Nat), RdsL G H ds vs F → ∃ A, RdsL G H (ds.drop n) (vs.drop n) A ∧ A.Sublist F
  | _, _, F, 0, h => ⟨F, h, List.Sublist.refl _⟩
  | [], _, F, n + 1, h => by
    obtain ⟨rfl, rfl⟩ := rdsL_nil.mp h
    exact ⟨[], h, List.Sublist.refl _⟩
  | d :: ds, _, F, n + 1, h => by
    obtain ⟨x, r, A, B, rfl, rfl, h1, h2⟩ := rdsL_cons.mp h
    obtain ⟨A', h3, h4⟩ := rdsL_drop n h2
    exact ⟨A', h3, h4.trans (List.sublist_append_right ..)⟩
theorem rdsL_take {H : Hp} : ∀ {ds : List D} {vs : List V} {F : List Addr} (n : Nat), RdsL G H ds vs F → ∃ A, RdsL G H (ds.take n) (vs.take n) A ∧ A.Sublist F
  | _, _, F, 0, h => ⟨[], rdsL_nil.mpr ⟨rfl, rfl⟩, List.nil_sublist _⟩
  | [], _, F, n + 1, h => by
    obtain ⟨rfl, rfl⟩ := rdsL_nil.mp h
    exact ⟨[], h, List.Sublist.refl _⟩
  | d :: ds, _, F, n + 1, h => by
    obtain ⟨x, r, A, B, rfl, rfl, h1, h2⟩ := rdsL_cons.mp h
    obtain ⟨A', h3, h4⟩ := rdsL_take n h2
    exact ⟨A ++ A', rdsL_cons.mpr ⟨x, _, A, A', rfl, rfl, h1, h3⟩, (List.Sublist.refl A).append h4⟩
theorem rdsL_cut {H : Hp} {ds : List D} {vs : List V} {F : List Addr} (lo hi : Option Int) (h : RdsL G H ds vs F) : ∃ A, RdsL G H (cutD ds lo hi) (cutV vs lo hi) A ∧ A.Sublist F := by
  unfold cutD cutV
  rw [rdsL_len h]
  obtain ⟨A, h1, h2⟩ := rdsL_drop (HT.sIx ds.length 0 lo) h
  obtain ⟨B, h3, h4⟩ := rdsL_take (HT.sIx ds.length ds.length hi - HT.sIx ds.length 0 lo) h1
  exact ⟨B, h3, h4.trans h2⟩
end
end
end VL
set_option maxHeartbeats 4000000
namespace VL
noncomputable section
open PySem PySem.Spec PyProof.Rows L2
open GxR (TabB TabG Tabbed)
section
variable {G : Gb} {X : Cx}
/-! ### slices -/
abbrev OF := Env → Option (Option Int × Env)
def tVO (G : Gb) (M : List Nat) (f : OF) : TO := fun σ H Q => ∃ C E Fs, Rel G C H σ E Fs ∧ ∃ o E', f E = some (o, E') ∧ ∀ H' Fs', Rel G C H' σ E' Fs' → Stp M H H' E E' Fs Fs' → Q o H'
abbrev VO (G : Gb) (X : Cx) (e : Option Expr) (M : List Nat) (f : OF) : Prop := PO X e (tVO G M f)
theorem PO.imp {e : Option Expr} {t t' : TO} (h : PO X e t) (i : ∀ σ H Q, t' σ H Q → t σ H Q) : PO X e t' := ⟨fun pins s σ H Q I q => h.run pins s σ H Q I (i σ H Q q)⟩
def oNone : OF := fun E => some (none, E)
def oSome (f : EF) : OF := fun E => match f E with
  | some (.int i, E') => some (some i, E')
  | _ => none
theorem vo_none : VO G X none [] oNone := PO.imp po_none fun σ H Q ⟨C, E, Fs, R, o, E', e, q⟩ => by
  cases e
  exact q H Fs R Stp.refl
theorem vo_some {e : Expr} {M : List Nat} {k : Kind} {f : EF} (h : VE G X e M k f) : VO G X (some e) M (oSome f) := PO.imp (po_some h) fun σ H Q ⟨C, E, Fs, R, o, E', e, q⟩ => by
  unfold oSome at e
  split at e
  · rename_i i E1 e1
    cases e
    exact ⟨C, E, Fs, R, _, _, e1, fun v H' Fs' F R' s' r' _ => ⟨i, (rds_int.mp r').1, q H' Fs' R' s'⟩⟩
  · cases e
def pSlice (lo hi : Option Int) : List D → Option D
  | [.lst ds] => some (.lst (cutD ds lo hi))
  | [.scr ns] => some (.lst (cutD (ns.map .int) lo hi))
  | [.tup ds] => if HT.sIx ds.length 0 lo = 0 ∧ HT.sIx ds.length ds.length hi = ds.length then none else some (.tup (cutD ds lo hi))
  | _ => none
abbrev rSlAll (K : PySem.W.Frag) : V → Option Int → Option Int → Hp → VK → Prop := fun x lo hi H Q => rSlL K x lo hi H Q ∨ rSlT K x lo hi H Q
theorem sl_all : SlR X (rSlAll X.K) := sl_list.or sl_tup
theorem prim_slice (hK : X.K = G.K) (lo hi : Option Int) : PrimV G (fun vs H Q => ∃ x, vs = [x] ∧ rSlAll X.K x lo hi H Q) (pSlice lo hi) := fun H vs ds F Q d tb r e q => by
  rw [hK]
  unfold pSlice at e
  split at e
  · rename_i xs
    cases e
    obtain ⟨x, rfl, h1⟩ := rdsL1 r
    obtain ⟨a, us, A, rfl, h3, h4, rfl⟩ := rds_lst.mp h1
    refine ⟨_, rfl, .inl ⟨a, us, rfl, SqL.of h3, fun p np => ?_⟩⟩
    obtain ⟨B, h5, h6⟩ := rdsL_cut lo hi h4
    have c : Chg No H (upd H p (.lst (cutV us lo hi))) := Chg.new np
    refine q _ _ (p :: B) (rds_lst.mpr ⟨p, _, _, rfl, upd_same, RdsL.chg c _ _ _ (fun _ _ z => z) h5, rfl⟩) (fun nd => ?_) (fun z hz => ?_) (fun z t n e => ?_) c
    · refine List.nodup_cons.mpr ⟨fun hz => ?_, (h6.trans (List.sublist_cons_self ..)).nodup nd⟩
      obtain ⟨o, eo, _⟩ := RdsL.trk _ _ _ h5 p hz
      rw [np] at eo
      cases eo
    · rcases List.mem_cons.mp hz with rfl | hz
      · exact .inr np
      · exact .inl (List.mem_cons_of_mem _ (h6.subset hz))
    · cases e
      exact np
  · rename_i ns
    cases e
    obtain ⟨x, rfl, h1⟩ := rdsL1 r
    obtain ⟨a, rfl, h3, rfl⟩ := rds_scr.mp h1
    refine ⟨_, rfl, .inl ⟨a, _, rfl, h3.sql, fun p np => ?_⟩⟩
    obtain ⟨B, h5, h6⟩ := rdsL_cut lo hi (rdsL_mk_ints (G := G) (H := H) ns)
    have eB : B = [] := List.sublist_nil.mp h6
    subst eB
    have c : Chg No H (upd H p (.lst (cutV (ns.map V.int) lo hi))) := Chg.new np
    refine q _ _ [p] (rds_lst.mpr ⟨p, _, _, rfl, upd_same, RdsL.chg c _ _ _ (fun _ _ z => z) h5, rfl⟩) (fun nd => by simp) (fun z hz => ?_) (fun z t n e => ?_) c
    · rw [List.mem_singleton.mp hz]
      exact .inr np
    · cases e
      exact np
  · split at e
    · cases e
    · rename_i xs hw
      cases e
      obtain ⟨x, rfl, h1⟩ := rdsL1 r
      obtain ⟨a, us, rfl, h3, h4⟩ := rds_tup.mp h1
      refine ⟨_, rfl, .inr ⟨a, us, rfl, h3, by rw [rdsL_len h4]; exact hw, fun p np => ?_⟩⟩
      obtain ⟨B, h5, h6⟩ := rdsL_cut lo hi h4
      have c : Chg No H (upd H p (.tup (cutV us lo hi))) := Chg.new np
      exact q _ _ B (rds_tup.mpr ⟨p, _, rfl, SqT.of upd_same, RdsL.chg c _ _ _ (fun _ _ z => z) h5⟩) (fun nd => h6.nodup nd) (fun z hz => .inl (h6.subset hz)) (fun z t n => by cases n) c
  · cases e
def eSlice (f : EF) (lo hi : OF) : EF := fun E => match f E with
  | some (d, E1) => (match lo E1 with
    | some (l, E2) => (match hi E2 with
      | some (u, E3) => (match pSlice l u [d] with
        | some r => some (r, E3)
        | none => none)
      | none => none)
    | none => none)
  | none => none
theorem ve_slice (x : XOk G X) {e : Expr} {lo hi : Option Expr} {M M1 M2 : List Nat} {k : Kind} {f : EF} {fl fh : OF} {p2 pos : Pos} (he : VE G X e M k f) (hl : VO G X lo M1 fl) (hh : VO G X hi M2 fh) (s1 : k.safe M1 = true := by rfl) (s2 : k.safe M2 = true := by rfl) :
    VE G X (.Subscript e (.Slice lo hi none p2) pos) (M ++ (M1 ++ M2)) (kTop [k]) (eSlice f fl fh) := PE.imp (pe_slice sl_all he hl hh) fun σ H Q ⟨C, E, Fs, R, d, E', e, q⟩ => by
  unfold eSlice at e
  split at e
  · rename_i d1 E1 e1
    split at e
    · rename_i l E2 e2
      split at e
      · rename_i u E3 e3
        split at e
        · rename_i r e4
          cases e
          refine ⟨C, E, Fs, R, d1, E1, e1, fun v H1 Fs1 F R1 st1 r1 k1 => ⟨C, E1, Fs1, R1, l, E2, e2, fun H2 Fs2 R2 st2 => ⟨C, E2, Fs2, R2, u, _, e3, fun H3 Fs3 R3 st3 => ?_⟩⟩⟩
          obtain ⟨r2, k2⟩ := k1.step R1 r1 st2 s1
          obtain ⟨r3, k3⟩ := k2.step R2 r2 st3 s2
          have st := st1.trans (st2.trans st3)
          obtain ⟨x', ex, qq⟩ := fin_top (ks := [k]) (FF := [F]) (prim_slice (G := G) x.K l u) R3 st ⟨d1, [], v, [], F, [], rfl, rfl, rfl, r3, k3, fun j B hB => by simp at hB, rfl, rfl, rfl⟩ e4 q
          cases ex
          exact qq
        · cases e
      · cases e
    · cases e
  · cases e
end
end
end VL
set_option maxHeartbeats 4000000
namespace VL
noncomputable section
open PySem PySem.Spec PyProof.Rows L2
open GxR (TabB TabG Tabbed)
section
variable {G : Gb} {X : Cx}
/-! ### ints in a list -/
def intsD : List D → Option (List Int)
  | [] => some []
  | .int i :: ds => (intsD ds).map (i :: ·)
  | _ => none
theorem intsD_of : ∀ {ds : List D} {ns : List Int}, intsD ds = some ns → ds = ns.map .int
  | [], ns, e => by
    unfold intsD at e
    cases e
    rfl
  | d :: ds, ns, e => by
    unfold intsD at e
    split at e
    · rename_i heq; cases heq
    · rename_i i ds' heq
      cases heq
      cases h : intsD ds with
      | none => rw [h] at e; cases e
      | some ms =>
        rw [h] at e
        cases e
        rw [intsD_of h]
        rfl
    · cases e
theorem intsD_map : ∀ (ns : List Int), intsD (ns.map .int) = some ns
  | [] => rfl
  | n :: ns => by
    show (intsD (ns.map .int)).map (n :: ·) = _
    rw [intsD_map ns]
    rfl
theorem hStr (i : Str) : ∀ G H, Rds G H (.str i) (.str i) [] := fun _ _ => rds_str.mpr ⟨rfl, rfl⟩
/-! ### built-ins -/
def pLen : List D → Option D
  | [.lst ds] => some (.int ds.length)
  | [.tup ds] => some (.int ds.length)
  | [.scr ns] => some (.int ns.length)
  | [.dct ks _] => some (.int ks.length)
  | [.str s] => if sl (decide (s.length ≤ sizeLine)) then some (.int s.length) else none
  | _ => none
abbrev rLenAll (K : PySem.W.Frag) : List V → Hp → VK → Prop := fun xs H Q => (∃ x n, xs = [x] ∧ LenV K x H n ∧ Q (.int n) H) ∨ ∃ d kvs, xs = [.ref d] ∧ H d = some (.dK kvs) ∧ Q (.int kvs.length) H
theorem prim_len (hK : X.K = G.K) : PrimF G (rLenAll X.K) pLen := fun H vs ds F Q d tb r e q => by
  rw [hK]
  unfold pLen at e
  split at e
  · cases e
    obtain ⟨x, rfl, h1⟩ := rdsL1 r
    obtain ⟨a, us, A, rfl, h3, h4, rfl⟩ := rds_lst.mp h1
    exact .inl ⟨_, _, rfl, .inl ⟨us, SqL.of h3, (rdsL_len h4).symm⟩, q_atom (hInt _) q⟩
  · cases e
    obtain ⟨x, rfl, h1⟩ := rdsL1 r
    obtain ⟨a, us, rfl, h3, h4⟩ := rds_tup.mp h1
    exact .inl ⟨_, _, rfl, .inr ⟨us, h3, (rdsL_len h4).symm⟩, q_atom (hInt _) q⟩
  · cases e
    obtain ⟨x, rfl, h1⟩ := rdsL1 r
    obtain ⟨a, rfl, h3, rfl⟩ := rds_scr.mp h1
    exact .inl ⟨_, _, rfl, .inl ⟨_, h3.sql, (List.length_map ..).symm⟩, q_atom (hInt _) q⟩
  · cases e
    obtain ⟨x, rfl, h1⟩ := rdsL1 r
    obtain ⟨a, us, A, rfl, h3, ⟨rfl, hnd⟩, h4, rfl⟩ := rds_dct.mp h1
    refine .inr ⟨a, us, rfl, h3, ?_⟩
    rw [List.length_map] at q
    exact q_atom (hInt _) q
  · split at e
    · rename_i s hl
      replace hl := sl_iff.mp hl
      cases e
      obtain ⟨x, rfl, h1⟩ := rdsL1 r
      obtain ⟨rfl, rfl⟩ := rds_str.mp h1
      exact .inl ⟨_, _, rfl, ⟨hl, rfl⟩, q_atom (hInt _) q⟩
    · cases e
  · cases e
theorem call_lenAll : CallR X (.builtin "len") (rLenAll X.K) := call_len.or call_lenD
def pAbs : List D → Option D
  | [.int i] => some (.int (if i < 0 then -i else i))
  | _ => none
theorem prim_abs : PrimF G (fun xs H Q => ∃ i, xs = [.int i] ∧ Q (.int (if i < 0 then -i else i)) H) pAbs := fun H vs ds F Q d tb r e q => by
  unfold pAbs at e
  split at e
  · cases e
    obtain ⟨x, rfl, h1⟩ := rdsL1 r
    obtain ⟨rfl, rfl⟩ := rds_int.mp h1
    exact ⟨_, rfl, q_atom (hInt _) q⟩
  · cases e
/-- the least, the greatest -/
def pMin : List D → Option D
  | [.int i, .int j] => some (.int (if j < i then j else i))
  | [.lst ds] => match intsD ds with
    | some (n :: ns) => some (.int (ns.foldl min n))
    | _ => none
  | [.tup ds] => match intsD ds with
    | some (n :: ns) => some (.int (ns.foldl min n))
    | _ => none
  | _ => none
def pMax : List D → Option D
  | [.int i, .int j] => some (.int (if j > i then j else i))
  | [.lst ds] => match intsD ds with
    | some (n :: ns) => some (.int (ns.foldl max n))
    | _ => none
  | [.tup ds] => match intsD ds with
    | some (n :: ns) => some (.int (ns.foldl max n))
    | _ => none
  | _ => none
theorem foldl_min_le : ∀ (ns : List Int) (n : Int), ns.foldl min n ≤ n ∧ ∀ y ∈ ns, ns.foldl min n ≤ y
  | [], n => ⟨Int.le_refl _, fun y hy => by cases hy⟩
  | m :: ns, n => by
    obtain ⟨h1, h2⟩ := foldl_min_le ns (min n m)
    refine ⟨by rw [List.foldl_cons]; omega, fun y hy => ?_⟩
    rw [List.foldl_cons]
    rcases List.mem_cons.mp hy with rfl | hy
    · omega
    · exact h2 y hy
theorem foldl_max_ge : ∀ (ns : List Int) (n : Int), n ≤ ns.foldl max n ∧ ∀ y ∈ ns, y ≤ ns.foldl max n
  | [], n => ⟨Int.le_refl _, fun y hy => by cases hy⟩
  | m :: ns, n => by
    obtain ⟨h1, h2⟩ := foldl_max_ge ns (max n m)
    refine ⟨by rw [List.foldl_cons]; omega, fun y hy => ?_⟩
    rw [List.foldl_cons]
    rcases List.mem_cons.mp hy with rfl | hy
    · omega
    · exact h2 y hy
theorem foldl_min_mem : ∀ (ns : List Int) (n : Int), ns.foldl min n ∈ n :: ns
  | [], n => List.mem_cons_self
  | m :: ns, n => by
    have h := foldl_min_mem ns (min n m)
    rw [List.foldl_cons]
    rcases List.mem_cons.mp h with h | h
    · rw [h]
      rcases Int.le_total n m with z | z
      · rw [Int.min_eq_left z]
        exact List.mem_cons_self
      · rw [Int.min_eq_right z]
        exact List.mem_cons_of_mem _ List.mem_cons_self
    · exact List.mem_cons_of_mem _ (List.mem_cons_of_mem _ h)
theorem foldl_max_mem : ∀ (ns : List Int) (n : Int), ns.foldl max n ∈ n :: ns
  | [], n => List.mem_cons_self
  | m :: ns, n => by
    have h := foldl_max_mem ns (max n m)
    rw [List.foldl_cons]
    rcases List.mem_cons.mp h with h | h
    · rw [h]
      rcases Int.le_total n m with z | z
      · rw [Int.max_eq_right z]
        exact List.mem_cons_of_mem _ List.mem_cons_self
      · rw [Int.max_eq_left z]
        exact List.mem_cons_self
    · exact List.mem_cons_of_mem _ (List.mem_cons_of_mem _ h)
abbrev rMinAll (K : PySem.W.Frag) : List V → Hp → VK → Prop := fun xs H Q => (∃ i j, xs = [.int i, .int j] ∧ Q (.int (if j < i then j else i)) H) ∨ (rMin K xs H Q ∨ TA.rMinT K xs H Q)
abbrev rMaxAll (K : PySem.W.Frag) : List V → Hp → VK → Prop := fun xs H Q => (∃ i j, xs = [.int i, .int j] ∧ Q (.int (if j > i then j else i)) H) ∨ (rMax K xs H Q ∨ TA.rMaxT K xs H Q)
theorem call_minAll (x : XOk G X) : CallR X (.builtin "min") (rMinAll X.K) := (call_min2 x.calm).or ((cr_min x.calm).or (TA.call_minT x.calm (by have := x.un; omega)))
theorem call_maxAll (x : XOk G X) : CallR X (.builtin "max") (rMaxAll X.K) := (call_max2 x.calm).or ((cr_max x.calm).or (TA.call_maxT x.calm (by have := x.un; omega)))
theorem prim_min (hK : X.K = G.K) : PrimF G (rMinAll X.K) pMin := fun H vs ds F Q d tb r e q => by
  rw [hK]
  unfold pMin at e
  split at e
  · cases e
    obtain ⟨x, y, A, B, rfl, rfl, h1, h2⟩ := rdsL2 r
    obtain ⟨rfl, rfl⟩ := rds_int.mp h1
    obtain ⟨rfl, rfl⟩ := rds_int.mp h2
    exact .inl ⟨_, _, rfl, q_atom (hInt _) q⟩
  · split at e
    · rename_i n ns e1
      cases e
      obtain ⟨x, rfl, h1⟩ := rdsL1 r
      obtain ⟨a, us, A, rfl, h3, h4, rfl⟩ := rds_lst.mp h1
      rw [intsD_of e1] at h4
      obtain ⟨rfl, rfl⟩ := rdsL_ints h4
      refine .inr (.inl ⟨a, n :: ns, rfl, SqL.of h3, by simp, fun m hm hy => ?_⟩)
      have e2 : m = ns.foldl min n := by
        have h5 := hy _ (foldl_min_mem ns n)
        have h6 := foldl_min_le ns n
        rcases List.mem_cons.mp hm with z | z
        · have := h6.1; omega
        · have := h6.2 m z; omega
      rw [e2]
      exact q_atom (hInt _) q
    · cases e
  · split at e
    · rename_i n ns e1
      cases e
      obtain ⟨x, rfl, h1⟩ := rdsL1 r
      obtain ⟨a, us, rfl, h3, h4⟩ := rds_tup.mp h1
      rw [intsD_of e1] at h4
      obtain ⟨rfl, rfl⟩ := rdsL_ints h4
      exact .inr (.inr ⟨a, n, ns, rfl, h3, q_atom (hInt _) q⟩)
    · cases e
  · cases e
theorem prim_max (hK : X.K = G.K) : PrimF G (rMaxAll X.K) pMax := fun H vs ds F Q d tb r e q => by
  rw [hK]
  unfold pMax at e
  split at e
  · cases e
    obtain ⟨x, y, A, B, rfl, rfl, h1, h2⟩ := rdsL2 r
    obtain ⟨rfl, rfl⟩ := rds_int.mp h1
    obtain ⟨rfl, rfl⟩ := rds_int.mp h2
    exact .inl ⟨_, _, rfl, q_atom (hInt _) q⟩
  · split at e
    · rename_i n ns e1
      cases e
      obtain ⟨x, rfl, h1⟩ := rdsL1 r
      obtain ⟨a, us, A, rfl, h3, h4, rfl⟩ := rds_lst.mp h1
      rw [intsD_of e1] at h4
      obtain ⟨rfl, rfl⟩ := rdsL_ints h4
      refine .inr (.inl ⟨a, n :: ns, rfl, SqL.of h3, by simp, fun m hm hy => ?_⟩)
      have e2 : m = ns.foldl max n := by
        have h5 := hy _ (foldl_max_mem ns n)
        have h6 := foldl_max_ge ns n
        rcases List.mem_cons.mp hm with z | z
        · have := h6.1; omega
        · have := h6.2 m z; omega
      rw [e2]
      exact q_atom (hInt _) q
    · cases e
  · split at e
    · rename_i n ns e1
      cases e
      obtain ⟨x, rfl, h1⟩ := rdsL1 r
      obtain ⟨a, us, rfl, h3, h4⟩ := rds_tup.mp h1
      rw [intsD_of e1] at h4
      obtain ⟨rfl, rfl⟩ := rdsL_ints h4
      exact .inr (.inr ⟨a, n, ns, rfl, h3, q_atom (hInt _) q⟩)
    · cases e
  · cases e
def pDivmod : List D → Option D
  | [.int i, .int j] => if sl (decide (0 < j ∧ j < 1073741824)) then some (.tup [.int (i / j), .int (i % j)]) else none
  | _ => none
theorem prim_divmod : PrimF G (fun xs H Q => ∃ i j, xs = [.int i, .int j] ∧ CDiv i j ∧ ∀ p, H p = none → Q (.ref p) (upd H p (.tup [.int (i / j), .int (i % j)]))) pDivmod := fun H vs ds F Q d tb r e q => by
  unfold pDivmod at e
  split at e
  · split at e
    · rename_i i j hc
      cases e
      obtain ⟨x, y, A, B, rfl, rfl, h1, h2⟩ := rdsL2 r
      obtain ⟨rfl, rfl⟩ := rds_int.mp h1
      obtain ⟨rfl, rfl⟩ := rds_int.mp h2
      refine ⟨i, j, rfl, show 0 < j ∧ j < 1073741824 from sl_iff.mp hc, fun p np => ?_⟩
      exact q _ _ [] (rds_tup.mpr ⟨p, _, rfl, SqT.of upd_same, rdsL_mk_ints [i / j, i % j]⟩) List.nodup_nil (fun a ha => by cases ha) (Chg.new np)
    · cases e
  · cases e
def pInt : List D → Option D
  | [.int i] => some (.int i)
  | [.bl b] => some (.int (if b then 1 else 0))
  | _ => none
theorem prim_int : PrimV G (fun xs H Q => (∃ i, xs = [.int i] ∧ Q (.int i) H) ∨ ∃ k, xs = [.bl k] ∧ Q (.int (if k then 1 else 0)) H) pInt := PrimF.v fun H vs ds F Q d tb r e q => by
  unfold pInt at e
  split at e
  · cases e
    obtain ⟨x, rfl, h1⟩ := rdsL1 r
    obtain ⟨rfl, rfl⟩ := rds_int.mp h1
    exact .inl ⟨_, rfl, q_atom (hInt _) q⟩
  · cases e
    obtain ⟨x, rfl, h1⟩ := rdsL1 r
    obtain ⟨rfl, rfl⟩ := rds_bl.mp h1
    exact .inr ⟨_, rfl, q_atom (hInt _) q⟩
  · cases e
def pList : List D → Option D
  | [d] => d.items.map .lst
  | _ => none
def pTuple : List D → Option D
  | [d] => d.items.map .tup
  | _ => none
theorem rds_items {H : Hp} {d : D} {ds : List D} {v : V} {F : List Addr} (e : d.items = some ds) (r : Rds G H d v F) : ∃ a us A, v = .ref a ∧ RdsL G H ds us A ∧ A.Sublist F ∧ ((SqL G.K H a us ∧ ∀ ds, d ≠ .tup ds) ∨ (SqT G.K H a us ∧ A = F)) := by
  cases d <;> unfold D.items at e <;> first | cases e | skip
  · obtain ⟨a, us, rfl, h3, h4⟩ := rds_tup.mp r
    exact ⟨a, us, F, rfl, h4, List.Sublist.refl _, .inr ⟨h3, rfl⟩⟩
  · obtain ⟨a, us, A, rfl, h3, h4, rfl⟩ := rds_lst.mp r
    exact ⟨a, us, A, rfl, h4, List.sublist_cons_self .., .inl ⟨SqL.of h3, fun _ z => by cases z⟩⟩
  · obtain ⟨a, rfl, h3, rfl⟩ := rds_scr.mp r
    exact ⟨a, _, [], rfl, rdsL_mk_ints _, List.Sublist.refl _, .inl ⟨h3.sql, fun _ z => by cases z⟩⟩
theorem prim_list (hK : X.K = G.K) : PrimV G (fun xs H Q => ∃ p ys, xs = [.ref p] ∧ (SqL X.K H p ys ∨ SqT X.K H p ys) ∧ ∀ l, H l = none → Q (.ref l) (upd H l (.lst ys))) pList := fun H vs ds F Q d tb r e q => by
  rw [hK]
  unfold pList at e
  split at e
  · rename_i d0
    cases e0 : d0.items with
    | none => rw [e0] at e; cases e
    | some its =>
      rw [e0] at e
      cases e
      obtain ⟨x, rfl, h1⟩ := rdsL1 r
      obtain ⟨a, us, A, rfl, h2, h3, h4⟩ := rds_items e0 h1
      refine ⟨a, us, rfl, h4.elim (fun z => .inl z.1) (fun z => .inr z.1), fun p np => ?_⟩
      have c : Chg No H (upd H p (.lst us)) := Chg.new np
      refine q _ _ (p :: A) (rds_lst.mpr ⟨p, _, _, rfl, upd_same, RdsL.chg c _ _ _ (fun _ _ z => z) h2, rfl⟩) (fun nd => ?_) (fun z hz => ?_) (fun z t n e => ?_) c
      · refine List.nodup_cons.mpr ⟨fun hz => ?_, h3.nodup nd⟩
        obtain ⟨o, eo, _⟩ := RdsL.trk _ _ _ h2 p hz
        rw [np] at eo
        cases eo
      · rcases List.mem_cons.mp hz with rfl | hz
        · exact .inr np
        · exact .inl (h3.subset hz)
      · cases e
        exact np
  · cases e
theorem prim_tuple (hK : X.K = G.K) : PrimV G (fun xs H Q => ∃ p ys, xs = [.ref p] ∧ ((SqL X.K H p ys ∧ ∀ l, H l = none → Q (.ref l) (upd H l (.tup ys))) ∨ (SqT X.K H p ys ∧ Q (.ref p) H))) pTuple := fun H vs ds F Q d tb r e q => by
  rw [hK]
  unfold pTuple at e
  split at e
  · rename_i d0
    cases e0 : d0.items with
    | none => rw [e0] at e; cases e
    | some its =>
      rw [e0] at e
      cases e
      obtain ⟨x, rfl, h1⟩ := rdsL1 r
      obtain ⟨a, us, A, rfl, h2, h3, h4⟩ := rds_items e0 h1
      rcases h4 with ⟨h4, _⟩ | ⟨h4, rfl⟩
      · refine ⟨a, us, rfl, .inl ⟨h4, fun p np => ?_⟩⟩
        have c : Chg No H (upd H p (.tup us)) := Chg.new np
        exact q _ _ A (rds_tup.mpr ⟨p, _, rfl, SqT.of upd_same, RdsL.chg c _ _ _ (fun _ _ z => z) h2⟩) (fun nd => h3.nodup nd) (fun z hz => .inl (h3.subset hz)) (fun z t n => by cases n) c
      · exact ⟨a, us, rfl, .inr ⟨h4, q _ H A (rds_tup.mpr ⟨a, _, rfl, h4, h2⟩) id (fun z hz => .inl hz) (fun z t n => by cases n) (Chg.refl _ _)⟩⟩
  · cases e
def pSum : List D → Option D
  | [.lst ds] => (intsD ds).map fun ns => .int ns.sum
  | _ => none
theorem prim_sum (hK : X.K = G.K) : PrimF G (rSum X.K) pSum := fun H vs ds F Q d tb r e q => by
  rw [hK]
  unfold pSum at e
  split at e
  · rename_i xs
    cases e1 : intsD xs with
    | none => rw [e1] at e; cases e
    | some ns =>
      rw [e1] at e
      cases e
      obtain ⟨x, rfl, h1⟩ := rdsL1 r
      obtain ⟨a, us, A, rfl, h3, h4, rfl⟩ := rds_lst.mp h1
      rw [intsD_of e1] at h4
      obtain ⟨rfl, rfl⟩ := rdsL_ints h4
      exact ⟨a, ns, rfl, SqL.of h3, q_atom (hInt _) q⟩
  · cases e
def blsD : List D → Option (List Bool)
  | [] => some []
  | .bl i :: ds => (blsD ds).map (i :: ·)
  | _ => none
theorem blsD_of : ∀ {ds : List D} {ns : List Bool}, blsD ds = some ns → ds = ns.map .bl
  | [], ns, e => by
    unfold blsD at e
    cases e
    rfl
  | d :: ds, ns, e => by
    unfold blsD at e
    split at e
    · rename_i heq; cases heq
    · rename_i i ds' heq
      cases heq
      cases h : blsD ds with
      | none => rw [h] at e; cases e
      | some ms =>
        rw [h] at e
        cases e
        rw [blsD_of h]
        rfl
    · cases e
theorem rdsL_bls {H : Hp} : ∀ {ns : List Bool} {vs : List V} {F : List Addr}, RdsL G H (ns.map D.bl) vs F → vs = ns.map V.bl ∧ F = []
  | [], _, _, h => rdsL_nil.mp h
  | n :: ns, _, _, h => by
    obtain ⟨x, r, A, B, rfl, rfl, h1, h2⟩ := rdsL_cons.mp h
    obtain ⟨rfl, rfl⟩ := rds_bl.mp h1
    obtain ⟨rfl, rfl⟩ := rdsL_bls h2
    exact ⟨rfl, rfl⟩
def pAll : List D → Option D
  | [.lst ds] => (blsD ds).map fun bs => .bl (bs.all id)
  | _ => none
def pAny : List D → Option D
  | [.lst ds] => (blsD ds).map fun bs => .bl (bs.any id)
  | _ => none
theorem prim_all (hK : X.K = G.K) : PrimF G (rAll X.K) pAll := fun H vs ds F Q d tb r e q => by
  rw [hK]
  unfold pAll at e
  split at e
  · rename_i xs
    cases e1 : blsD xs with
    | none => rw [e1] at e; cases e
    | some ns =>
      rw [e1] at e
      cases e
      obtain ⟨x, rfl, h1⟩ := rdsL1 r
      obtain ⟨a, us, A, rfl, h3, h4, rfl⟩ := rds_lst.mp h1
      rw [blsD_of e1] at h4
      obtain ⟨rfl, rfl⟩ := rdsL_bls h4
      exact ⟨a, ns, rfl, SqL.of h3, q_atom (hBl _) q⟩
  · cases e
theorem prim_any (hK : X.K = G.K) : PrimF G (rAny X.K) pAny := fun H vs ds F Q d tb r e q => by
  rw [hK]
  unfold pAny at e
  split at e
  · rename_i xs
    cases e1 : blsD xs with
    | none => rw [e1] at e; cases e
    | some ns =>
      rw [e1] at e
      cases e
      obtain ⟨x, rfl, h1⟩ := rdsL1 r
      obtain ⟨a, us, A, rfl, h3, h4, rfl⟩ := rds_lst.mp h1
      rw [blsD_of e1] at h4
      obtain ⟨rfl, rfl⟩ := rdsL_bls h4
      exact ⟨a, ns, rfl, SqL.of h3, q_atom (hBl _) q⟩
  · cases e
/-- repr -/
def pRepr : List D → Option D
  | [d] => match d.py with
    | some p => if sl (isDisplay p && p.showable && !p.hasDict && decide (p.depth ≤ 30) && decide (p.shown.length ≤ sizeLine)) then some (.str p.shown) else none
    | none => none
  | _ => none
theorem prim_repr (hK : X.K = G.K) : PrimF G (fun xs H Q => ∃ x d, xs = [x] ∧ Dp X.K H x d ∧ TA.Shows d ∧ Q (.str d.shown) H) pRepr := fun H vs ds F Q d tb r e q => by
  rw [hK]
  unfold pRepr at e
  split at e
  · split at e
    · rename_i p e1
      split at e
      · rename_i hc
        rw [sl_eq] at hc
        simp only [Bool.and_eq_true, Bool.not_eq_true', decide_eq_true_eq] at hc
        obtain ⟨⟨⟨⟨c1, c2⟩, c3⟩, c4⟩, c5⟩ := hc
        cases e
        obtain ⟨x, rfl, h1⟩ := rdsL1 r
        exact ⟨x, p, rfl, Rds.dp _ _ _ _ e1 h1, ⟨c1, c2, c3, c4, c5⟩, q_atom (hStr _) q⟩
      · cases e
    · cases e
  · cases e
end
end
end VL
set_option maxHeartbeats 4000000
namespace VL
noncomputable section
open PySem PySem.Spec PyProof.Rows L2
open GxR (TabB TabG Tabbed)
section
variable {G : Gb} {X : Cx}
/-! ### in -/
def flatD : D → Option V
  | .non => some .non
  | .bl b => some (.bl b)
  | .int i => some (.int i)
  | .str s => some (.str s)
  | _ => none
def flatsD : List D → Option (List V)
  | [] => some []
  | d :: ds => match flatD d, flatsD ds with
    | some v, some vs => some (v :: vs)
    | _, _ => none
theorem flatD_of {H : Hp} {d : D} {x v : V} {F : List Addr} (e : flatD d = some x) (r : Rds G H d v F) : v = x ∧ flatV x = true ∧ F = [] := by
  cases d <;> unfold flatD at e <;> cases e
  · exact ⟨(rds_non.mp r).1, rfl, (rds_non.mp r).2⟩
  · exact ⟨(rds_bl.mp r).1, rfl, (rds_bl.mp r).2⟩
  · exact ⟨(rds_int.mp r).1, rfl, (rds_int.mp r).2⟩
  · exact ⟨(rds_str.mp r).1, rfl, (rds_str.mp r).2⟩
theorem flatsD_of {H : Hp} : ∀ {ds : List D} {xs vs : List V} {F : List Addr}, flatsD ds = some xs → RdsL G H ds vs F → vs = xs ∧ xs.all flatV = true ∧ F = []
  | [], xs, vs, F, e, r => by
    unfold flatsD at e
    cases e
    exact ⟨(rdsL_nil.mp r).1, rfl, (rdsL_nil.mp r).2⟩
  | d :: ds, xs, vs, F, e, r => by
    obtain ⟨x, r', A, B, rfl, rfl, h1, h2⟩ := rdsL_cons.mp r
    unfold flatsD at e
    split at e
    · rename_i v vs' e1 e2
      cases e
      obtain ⟨rfl, f1, rfl⟩ := flatD_of e1 h1
      obtain ⟨rfl, f2, rfl⟩ := flatsD_of e2 h2
      exact ⟨rfl, by rw [List.all_cons, f1, f2]; rfl, rfl⟩
    · cases e
theorem flatsD_ints : ∀ ns : List Int, flatsD (ns.map .int) = some (ns.map .int)
  | [] => rfl
  | n :: ns => by
    show flatsD (.int n :: ns.map .int) = _
    unfold flatsD
    rw [flatsD_ints ns]
    rfl
/-- whether x is in y -/
def D.has (x y : D) : Option Bool := match y with
  | .dct ks ds => (keyD x).map fun k => (atK ks ds k).isSome
  | .lst ds => match flatD x, flatsD ds with
    | some v, some vs => some (inV v vs)
    | _, _ => match x.py, (D.lst ds).py with
      | some p, some (.list ps) => if SeqAt.shaped p && SeqAt.shaped (.list ps) then some (ps.any fun z => PyData.eqv z p) else none
      | _, _ => none
  | .tup ds => match flatD x, flatsD ds with
    | some v, some vs => some (inV v vs)
    | _, _ => none
  | _ => none
def pIn (neg : Bool) : List D → Option D
  | [x, y] => (x.has y).map fun b => .bl (if neg then !b else b)
  | _ => none
abbrev rInAll (K : PySem.W.Frag) : R2 := fun x y H Q => rIn K false x y H Q ∨ ((∃ a o, y = .ref a ∧ DGet H a x o ∧ Q (.bl o.isSome) H) ∨ rInD K x y H Q)
abbrev rNotInAll (K : PySem.W.Frag) : R2 := fun x y H Q => rIn K true x y H Q ∨ ((∃ a o, y = .ref a ∧ DGet H a x o ∧ Q (.bl (!o.isSome)) H) ∨ rNotInD K x y H Q)
theorem op_inAll (x : XOk G X) : OpR X (compareOp .In) (rInAll X.K) := op_in_seq.or ((op_inDict (by have := x.un; omega)).or (op_inD (by have := x.un; omega)))
theorem op_notInAll (x : XOk G X) : OpR X (compareOp .NotIn) (rNotInAll X.K) := op_notIn_seq.or ((op_notInDict (by have := x.un; omega)).or (op_notInD (by have := x.un; omega)))
theorem has_some {H : Hp} {x y : D} {b : Bool} {v u : V} {A B : List Addr} (e : x.has y = some b) (h1 : Rds G H x v A) (h2 : Rds G H y u B) :
    (∃ p xs, u = .ref p ∧ (SqL G.K H p xs ∨ SqT G.K H p xs) ∧ flatV v = true ∧ xs.all flatV = true ∧ b = inV v xs) ∨ (∃ a o, u = .ref a ∧ DGet H a v o ∧ b = o.isSome) ∨
      ∃ d ds, Dp G.K H v d ∧ Dp G.K H u (.list ds) ∧ SeqAt.shaped d = true ∧ SeqAt.shaped (.list ds) = true ∧ b = ds.any fun z => PyData.eqv z d := by
  unfold D.has at e
  split at e
  · rename_i ks ds
    cases hk : keyD x with
    | none => rw [hk] at e; cases e
    | some k =>
      rw [hk] at e
      cases e
      obtain ⟨a, us, A', rfl, h3, ⟨rfl, hnd⟩, h4, rfl⟩ := rds_dct.mp h2
      have ev := rds_key hk h1
      subst ev
      refine .inr (.inl ⟨a, _, rfl, DGet.k h3, ?_⟩)
      have z := rdsL_atK (k := k) h4
      cases h5 : atK (us.map (·.1)) ds k with
      | none => rw [z.2 h5]; exact congrArg Option.isSome h5
      | some d' =>
        obtain ⟨v', _, h6, _⟩ := z.1 d' h5
        rw [h6]
        exact congrArg Option.isSome h5
  · rename_i ds
    obtain ⟨a, us, A', rfl, h3, h4, rfl⟩ := rds_lst.mp h2
    split at e
    · rename_i v' vs' e1 e2
      cases e
      obtain ⟨rfl, f1, _⟩ := flatD_of e1 h1
      obtain ⟨rfl, f2, _⟩ := flatsD_of e2 h4
      exact .inl ⟨a, us, rfl, .inl (SqL.of h3), f1, f2, rfl⟩
    · split at e
      · rename_i p ps e1 e2
        split at e
        · rename_i hs
          rw [Bool.and_eq_true] at hs
          cases e
          exact .inr (.inr ⟨p, ps, Rds.dp _ _ _ _ e1 h1, Rds.dp _ _ _ _ e2 h2, hs.1, hs.2, rfl⟩)
        · cases e
      · cases e
  · rename_i ds
    obtain ⟨a, us, rfl, h3, h4⟩ := rds_tup.mp h2
    split at e
    · rename_i v' vs' e1 e2
      cases e
      obtain ⟨rfl, f1, _⟩ := flatD_of e1 h1
      obtain ⟨rfl, f2, _⟩ := flatsD_of e2 h4
      exact .inl ⟨a, us, rfl, .inr h3, f1, f2, rfl⟩
    · cases e
  · cases e
theorem prim_in (hK : X.K = G.K) : PrimF G (r2 (rInAll X.K)) (pIn false) := fun H vs ds F Q d tb r e q => by
  rw [hK]
  unfold pIn at e
  split at e
  · rename_i x y
    cases e1 : x.has y with
    | none => rw [e1] at e; cases e
    | some b =>
      rw [e1] at e
      cases e
      obtain ⟨v, u, A, B, rfl, rfl, h1, h2⟩ := rdsL2 r
      refine ⟨v, u, rfl, ?_⟩
      rcases has_some e1 h1 h2 with ⟨p, xs, e2, e3, e4, e5, rfl⟩ | ⟨a, o, e2, e3, rfl⟩ | ⟨d, ds, e2, e3, e4, e5, rfl⟩
      · exact .inl ⟨p, xs, e2, e3, e4, e5, q_atom (hBl _) q⟩
      · exact .inr (.inl ⟨a, o, e2, e3, q_atom (hBl _) q⟩)
      · exact .inr (.inr ⟨d, ds, e2, e3, e4, e5, q_atom (hBl _) q⟩)
  · cases e
theorem prim_notIn (hK : X.K = G.K) : PrimF G (r2 (rNotInAll X.K)) (pIn true) := fun H vs ds F Q d tb r e q => by
  rw [hK]
  unfold pIn at e
  split at e
  · rename_i x y
    cases e1 : x.has y with
    | none => rw [e1] at e; cases e
    | some b =>
      rw [e1] at e
      cases e
      obtain ⟨v, u, A, B, rfl, rfl, h1, h2⟩ := rdsL2 r
      refine ⟨v, u, rfl, ?_⟩
      rcases has_some e1 h1 h2 with ⟨p, xs, e2, e3, e4, e5, rfl⟩ | ⟨a, o, e2, e3, rfl⟩ | ⟨d, ds, e2, e3, e4, e5, rfl⟩
      · exact .inl ⟨p, xs, e2, e3, e4, e5, q_atom (hBl _) q⟩
      · exact .inr (.inl ⟨a, o, e2, e3, q_atom (hBl _) q⟩)
      · exact .inr (.inr ⟨d, ds, e2, e3, e4, e5, q_atom (hBl _) q⟩)
  · cases e
/-! ### truth -/
def D.tru : D → Option Bool
  | .non => some false
  | .bl b => some b
  | .int i => some (i != 0)
  | .lst ds => some (!ds.isEmpty)
  | .tup ds => some (!ds.isEmpty)
  | .dct ks _ => some (!ks.isEmpty)
  | .scr ns => some (!ns.isEmpty)
  | _ => none
def toTr (f : EF) : TF := fun E => match f E with
  | some (d, E') => (match d.tru with
    | some b => some (b, E')
    | none => none)
  | none => none
theorem isEmpty_len {α β : Type} {xs : List α} {ys : List β} (h : xs.length = ys.length) : xs.isEmpty = ys.isEmpty := by
  cases xs <;> cases ys <;> simp_all
theorem tru_of {H : Hp} {d : D} {b : Bool} {v : V} {F : List Addr} (e : d.tru = some b) (r : Rds G H d v F) : TruV G.K v H b := by
  cases d <;> unfold D.tru at e <;> cases e
  · rw [(rds_non.mp r).1]; rfl
  · rw [(rds_bl.mp r).1]; rfl
  · rw [(rds_int.mp r).1]; rfl
  · obtain ⟨a, us, rfl, h3, h4⟩ := rds_tup.mp r
    exact .inr (.inl ⟨us, h3, by rw [isEmpty_len (rdsL_len h4)]⟩)
  · obtain ⟨a, us, A', rfl, h3, h4, rfl⟩ := rds_lst.mp r
    exact .inl ⟨us, SqL.of h3, by rw [isEmpty_len (rdsL_len h4)]⟩
  · obtain ⟨a, us, A', rfl, h3, ⟨rfl, hnd⟩, h4, rfl⟩ := rds_dct.mp r
    exact .inr (.inr ⟨us, h3, by rw [List.isEmpty_map]⟩)
  · obtain ⟨a, rfl, h3, rfl⟩ := rds_scr.mp r
    exact .inl ⟨_, h3.sql, by rw [List.isEmpty_map]⟩
theorem vt_truth (x : XOk G X) {e : Expr} {M : List Nat} {k : Kind} {f : EF} (he : VE G X e M k f) (hi : ∀ whole, isTrue e X.env whole = (do let v ← whole; standAt e.pos; holding [v] (truthy v)) := by intro _; rfl) : VT G X e M (toTr f) :=
  PT.imp (pt_truth he hi) fun σ H Q ⟨C, E, Fs, R, b, E', e, q⟩ => by
    unfold toTr at e
    split at e
    · rename_i d E1 e1
      split at e
      · rename_i b' e2
        cases e
        exact ⟨C, E, Fs, R, _, _, e1, fun v H' Fs' F R' s' r' _ => ⟨b, by rw [x.K]; exact tru_of e2 r', q H' Fs' R' s'⟩⟩
      · cases e
    · cases e
/-! ### list(range(..)) -/
abbrev RF := Env → Option (Int × Int × Env)
def tVR (G : Gb) (M : List Nat) (f : RF) : L2.St → Hp → (Int → Int → Hp → Prop) → Prop := fun σ H Q => ∃ C E Fs, Rel G C H σ E Fs ∧ ∃ a b E', f E = some (a, b, E') ∧ ∀ H' Fs', Rel G C H' σ E' Fs' → Stp M H H' E E' Fs Fs' → Q a b H'
abbrev VR (G : Gb) (X : Cx) (e : Expr) (M : List Nat) (f : RF) : Prop := PRg X e (tVR G M f)
theorem PRg.imp {e : Expr} {t t' : L2.St → Hp → (Int → Int → Hp → Prop) → Prop} (h : PRg X e t) (i : ∀ σ H Q, t' σ H Q → t σ H Q) : PRg X e t' := fun pins s σ H Q I q => h pins s σ H Q I (i σ H Q q)
def rg1 (f : EF) : RF := fun E => match f E with
  | some (.int n, E') => some (0, n, E')
  | _ => none
def rg2 (f g : EF) : RF := fun E => match lCons f (lCons g lNil) E with
  | some ([.int i, .int j], E') => some (i, j, E')
  | _ => none
variable {a b e : Expr} {M M' : List Nat} {k k' : Kind} {f g : EF}
theorem vr_1 {p pos : Pos} (hg : Gl X "range") (hm : X.mg "range" = none) (ha : VE G X a M k f) (na : starEach [a] X.env = (false, eval a X.env) :: starEach [] X.env := by rfl) : VR G X (.Call (.Name "range" p) [a] [] pos) M (rg1 f) :=
  PRg.imp (prg_1 hg hm ha na) fun σ H Q ⟨C, E, Fs, R, i, j, E', e, q⟩ => by
    unfold rg1 at e
    split at e
    · rename_i n E1 e1
      cases e
      exact ⟨C, E, Fs, R, _, _, e1, fun v H' Fs' F R' s' r' _ => ⟨j, (rds_int.mp r').1, q H' Fs' R' s'⟩⟩
    · cases e
theorem vr_2 {p pos : Pos} (hg : Gl X "range") (hm : X.mg "range" = none) (ha : VE G X a M k f) (hb : VE G X b M' k' g) (sf : k.safe M' = true := by rfl) (na : starEach [a, b] X.env = (false, eval a X.env) :: starEach [b] X.env := by rfl)
    (nb : starEach [b] X.env = (false, eval b X.env) :: starEach [] X.env := by rfl) (hp : (backTo pos (starEach [b] X.env)).any (·.1) = false := by rfl) : VR G X (.Call (.Name "range" p) [a, b] [] pos) (M ++ M') (rg2 f g) :=
  PRg.imp (prg_2 hg hm ha hb na nb hp) fun σ H Q ⟨C, E, Fs, R, i, j, E', e, q⟩ => by
    unfold rg2 at e
    split at e
    · rename_i i' j' E1 e1
      cases e
      refine (two_of (R := fun vs H' => ∃ x y, vs = [x, y] ∧ x = .int i ∧ y = .int j ∧ Q i j H') sf ⟨C, E, Fs, R, _, _, e1, fun vs H' Fs' FF R' s' a' => ?_⟩).mono fun x H1 q => q.mono fun y H2 ⟨_, _, e, e1, e2, q⟩ => by cases e; exact ⟨i, j, e1, e2, q⟩
      obtain ⟨x, y, A, B, rfl, _, h1, h2⟩ := rdsL2 a'.rds
      exact ⟨x, y, rfl, (rds_int.mp h1).1, (rds_int.mp h2).1, q H' Fs' R' s'⟩
    · cases e
/-- a .. b - 1 -/
def rgI (a b : Int) : List Int := (List.range (b - a).toNat).map fun (i : Nat) => a + (i : Int)
def rgOk (a b : Int) : Bool := sl (decide (-(2 ^ 62) ≤ a ∧ a < 2 ^ 62 ∧ -(2 ^ 62) ≤ b ∧ b < 2 ^ 62 ∧ (b - a).toNat ≤ 2 ^ 24))
def eListRg (r : RF) : EF := fun E => match r E with
  | some (a, b, E') => if rgOk a b then some (.lst ((rgI a b).map .int), E') else none
  | none => none
theorem rgV_ints (a b : Int) : rgV a b = (rgI a b).map V.int := by
  unfold rgV rgI
  rw [List.map_map]
  rfl
theorem ve_listRg {p pos : Pos} {r : RF} (x : XOk G X) (hg : Gl X "list") (hm : X.mg "list" = none) (he : VR G X e M r) (na : starEach [e] X.env = (false, eval e X.env) :: starEach [] X.env := by rfl) : VE G X (.Call (.Name "list" p) [e] [] pos) M .own (eListRg r) :=
  PE.imp (pe_listRg x.calm hg hm he na) fun σ H Q ⟨C, E, Fs, R, d, E', e, q⟩ => by
    unfold eListRg at e
    split at e
    · rename_i a b E1 e1
      split at e
      · rename_i hr
        cases e
        refine ⟨C, E, Fs, R, a, b, _, e1, fun H1 Fs1 R1 s1 => ⟨show -(2 ^ 62) ≤ a ∧ a < 2 ^ 62 ∧ -(2 ^ 62) ≤ b ∧ b < 2 ^ 62 ∧ (b - a).toNat ≤ 2 ^ 24 from sl_iff.mp hr, fun p np => ?_⟩⟩
        rw [rgV_ints]
        have c : Chg No H1 (upd H1 p (.lst ((rgI a b).map V.int))) := Chg.new np
        refine q _ _ Fs1 [p] (R1.chg c) ((s1.trans (Stp.of (M := []) c)).mono fun i hi => by simpa using hi) (rds_lst.mpr ⟨p, _, [], rfl, upd_same, rdsL_mk_ints _, rfl⟩) ⟨by simp, fun z hz => .inr ?_⟩
        rw [List.mem_singleton.mp hz]
        have l := R1.loose np
        exact ⟨s1.chg.back l.1, l.2⟩
      · cases e
    · cases e
end
end
end VL
set_option maxHeartbeats 4000000
namespace VL
noncomputable section
open PySem PySem.Spec PyProof.Rows L2
open GxR (TabB TabG Tabbed)
/-! ### slots set -/
def Mode.frz : Mode → Mode
  | .own => .shr
  | .io => .arg
  | m => m
def frz1 (E : Env) (j : Nat) : Env := match E[j]? with
  | some (some (m, d)) => E.set j (some (m.frz, d))
  | _ => E
def freeze (E : Env) (S : List Nat) : Env := S.foldl frz1 E
def newAll (E : Env) (S : List Nat) : Bool := S.all fun j => match E[j]? with
  | some (some (m, _)) => m.new
  | _ => true
/-- a list or dict of atoms -/
def D.flat : D → Bool
  | .lst ds => D.atomL ds
  | .dct _ ds => D.atomL ds
  | _ => false
def putV (E : Env) (i : Nat) (S : List Nat) (d : D) : Env := (freeze E S).set i (some (if newAll E S then .shr else .arg, d))
def putE (E : Env) (i : Nat) (k : Kind) (d : D) : Env :=
  if d.atom then E.set i (some (.own, d)) else match k with
    | .own => E.set i (some (.own, d))
    | .top S => if d.flat then E.set i (some (.own, d)) else putV E i S d
    | .sub j => putV E i [j] d
    | .vw S => putV E i S d
    | .ref j => putV E i [j] d
abbrev FsSet (Fs : Nat → List Addr) (i : Nat) (F : List Addr) : Nat → List Addr := fun j => if j = i then F else Fs j
section
variable {G : Gb} {C : Ctx} {H : Hp} {σ : L2.St} {E : Env} {Fs : Nat → List Addr} {i : Nat} {d : D} {v : V} {F : List Addr} {m : Mode}
theorem Rel.set (R : Rel G C H σ E Fs) (hi : i < E.length) (rd : Rds G H d v F) (hio : m ≠ .io) (c1 : m.w = true → F.Nodup ∧ ∀ a ∈ F, ¬ C.T a)
    (c2 : ∀ j m' d', j ≠ i → E[j]? = some (some (m', d')) → (m.w = true ∨ m'.w = true) → ∀ a ∈ F, a ∉ Fs j) (c3 : m.new = true → ∀ a ∈ F, C.H0 a = none) :
    Rel G C H (σ.set i (some v)) (E.set i (some (m, d))) (FsSet Fs i F) where
  len := by rw [List.length_set, List.length_set]; exact R.len
  rd := fun j m' d' e => by
    by_cases h : j = i
    · subst h
      rw [List.getElem?_set_self hi] at e
      cases e
      exact ⟨v, by rw [List.getElem?_set_self (by rw [← R.len]; exact hi)], by rw [FsSet, if_pos rfl]; exact rd, fun z => absurd z hio⟩
    · rw [List.getElem?_set_ne (Ne.symm h)] at e
      obtain ⟨w, h1, h2, h3⟩ := R.rd j m' d' e
      exact ⟨w, by rw [List.getElem?_set_ne (Ne.symm h)]; exact h1, by rw [FsSet, if_neg h]; exact h2, h3⟩
  nd := fun j m' d' e hw => by
    by_cases h : j = i
    · subst h
      rw [List.getElem?_set_self hi] at e
      cases e
      rw [FsSet, if_pos rfl]
      refine ⟨(c1 hw).1, (c1 hw).2, fun j' m2 d2 hj e2 a ha => ?_⟩
      rw [List.getElem?_set_ne (Ne.symm hj)] at e2
      rw [FsSet, if_neg hj]
      exact c2 j' m2 d2 hj e2 (.inl hw) a ha
    · rw [List.getElem?_set_ne (Ne.symm h)] at e
      obtain ⟨h1, h2, h3⟩ := R.nd j m' d' e hw
      rw [FsSet, if_neg h]
      refine ⟨h1, h2, fun j' m2 d2 hj e2 a ha => ?_⟩
      by_cases h' : j' = i
      · subst h'
        rw [FsSet, if_pos rfl]
        exact fun hm => c2 j m' d' h e (.inr hw) a hm ha
      · rw [List.getElem?_set_ne (Ne.symm h')] at e2
        rw [FsSet, if_neg h']
        exact h3 j' m2 d2 hj e2 a ha
  nw := fun j m' d' e => by
    by_cases h : j = i
    · subst h
      rw [List.getElem?_set_self hi] at e
      cases e
      rw [FsSet, if_pos rfl]
      exact ⟨c3, fun z => absurd z hio⟩
    · rw [List.getElem?_set_ne (Ne.symm h)] at e
      rw [FsSet, if_neg h]
      exact R.nw j m' d' e
  fr := R.fr
  pr := R.pr
  pt := R.pt
  tb := R.tb
/-- a slot is forgotten -/
theorem Rel.drop (R : Rel G C H σ E Fs) (i : Nat) : Rel G C H σ (E.set i none) Fs := by
  have h : ∀ {j m' d'}, (E.set i none)[j]? = some (some (m', d')) → E[j]? = some (some (m', d')) ∧ j ≠ i := fun {j m' d'} e => by
    by_cases h : j = i
    · subst h
      by_cases hj : j < E.length
      · rw [List.getElem?_set_self hj] at e
        cases e
      · rw [List.getElem?_eq_none (by rw [List.length_set]; omega)] at e
        cases e
    · rw [List.getElem?_set_ne (Ne.symm h)] at e
      exact ⟨e, h⟩
  exact ⟨by rw [List.length_set]; exact R.len, fun j m' d' e => R.rd j m' d' (h e).1, fun j m' d' e hw => let ⟨a, b, c⟩ := R.nd j m' d' (h e).1 hw; ⟨a, b, fun j' m2 d2 hj e2 => c j' m2 d2 hj (h e2).1⟩, fun j m' d' e => R.nw j m' d' (h e).1, R.fr, R.pr, R.pt, R.tb⟩
theorem Mode.frz_w (m : Mode) : m.frz.w = false := by cases m <;> rfl
theorem Mode.frz_new (m : Mode) : m.frz.new = m.new := by cases m <;> rfl
theorem Mode.frz_io (m : Mode) : m.frz ≠ .io := by cases m <;> decide
theorem frz1_get {j l : Nat} : (∀ m d, E[l]? = some (some (m, d)) → ∃ m', (frz1 E j)[l]? = some (some (m', d)) ∧ (m' = m ∨ m' = m.frz) ∧ (l = j → m' = m.frz)) ∧ (∀ m d, (frz1 E j)[l]? = some (some (m, d)) → ∃ m0, E[l]? = some (some (m0, d)) ∧ (m = m0 ∨ m = m0.frz) ∧ (l = j → m = m0.frz)) := by
  unfold frz1
  split
  · rename_i m0 d0 e0
    have hj : j < E.length := (List.getElem?_eq_some_iff.mp e0).1
    by_cases h : l = j
    · subst h
      rw [List.getElem?_set_self hj, e0]
      exact ⟨fun m d e => by cases e; exact ⟨_, rfl, .inr rfl, fun _ => rfl⟩, fun m d e => by cases e; exact ⟨_, rfl, .inr rfl, fun _ => rfl⟩⟩
    · rw [List.getElem?_set_ne (Ne.symm h)]
      exact ⟨fun m d e => ⟨m, e, .inl rfl, fun z => absurd z h⟩, fun m d e => ⟨m, e, .inl rfl, fun z => absurd z h⟩⟩
  · rename_i hn
    exact ⟨fun m d e => ⟨m, e, .inl rfl, fun z => by subst z; exact absurd e (hn m d)⟩, fun m d e => ⟨m, e, .inl rfl, fun z => by subst z; exact absurd e (hn m d)⟩⟩
theorem frz1_len {j : Nat} : (frz1 E j).length = E.length := by
  unfold frz1
  split
  · rw [List.length_set]
  · rfl
theorem Rel.frz1 {j : Nat} (R : Rel G C H σ E Fs) : Rel G C H σ (frz1 E j) Fs where
  len := by rw [frz1_len]; exact R.len
  rd := fun l m d e => by
    obtain ⟨m0, e0, h1, h2⟩ := frz1_get.2 m d e
    obtain ⟨w, z1, z2, z3⟩ := R.rd l m0 d e0
    refine ⟨w, z1, z2, fun z => ?_⟩
    rcases h1 with rfl | rfl
    · exact z3 z
    · exact absurd z (Mode.frz_io m0)
  nd := fun l m d e hw => by
    obtain ⟨m0, e0, h1, h2⟩ := frz1_get.2 m d e
    rcases h1 with rfl | rfl
    · obtain ⟨z1, z2, z3⟩ := R.nd l _ d e0 hw
      exact ⟨z1, z2, fun l' m' d' hl e' => let ⟨m1, e1, _⟩ := frz1_get.2 m' d' e'; z3 l' m1 d' hl e1⟩
    · rw [Mode.frz_w] at hw
      cases hw
  nw := fun l m d e => by
    obtain ⟨m0, e0, h1, h2⟩ := frz1_get.2 m d e
    obtain ⟨z1, z2⟩ := R.nw l m0 d e0
    rcases h1 with rfl | rfl
    · exact ⟨z1, z2⟩
    · exact ⟨by rw [Mode.frz_new]; exact z1, fun z => absurd z (Mode.frz_io m0)⟩
  fr := R.fr
  pr := R.pr
  pt := R.pt
  tb := R.tb
theorem freeze_get : ∀ {S : List Nat} {E : Env} {l : Nat}, (∀ m d, E[l]? = some (some (m, d)) → ∃ m', (freeze E S)[l]? = some (some (m', d)) ∧ (l ∈ S → m'.w = false)) ∧ (∀ m d, (freeze E S)[l]? = some (some (m, d)) → ∃ m0, E[l]? = some (some (m0, d)) ∧ (m.w = true → m = m0 ∧ l ∉ S))
  | [], E, l => ⟨fun m d e => ⟨m, e, fun z => by cases z⟩, fun m d e => ⟨m, e, fun z => ⟨rfl, by simp⟩⟩⟩
  | j :: S, E, l => by
    have ih := @freeze_get S (frz1 E j) l
    have z := @frz1_get E j l
    refine ⟨fun m d e => ?_, fun m d e => ?_⟩
    · obtain ⟨m1, e1, h1, h2⟩ := z.1 m d e
      obtain ⟨m2, e2, h3⟩ := ih.1 m1 d e1
      refine ⟨m2, e2, fun hl => ?_⟩
      rcases List.mem_cons.mp hl with hl | hl
      · obtain ⟨m3, e3, h4⟩ := ih.2 m2 d e2
        cases hw : m2.w with
        | false => rfl
        | true =>
          obtain ⟨e4, _⟩ := h4 hw
          rw [e1] at e3
          cases e3
          rw [e4, h2 hl, Mode.frz_w] at hw
          cases hw
      · exact h3 hl
    · obtain ⟨m1, e1, h1⟩ := ih.2 m d e
      obtain ⟨m0, e0, h2, h3⟩ := z.2 m1 d e1
      refine ⟨m0, e0, fun hw => ?_⟩
      obtain ⟨h4, h5⟩ := h1 hw
      subst h4
      rcases h2 with rfl | rfl
      · refine ⟨rfl, fun hm => ?_⟩
        rcases List.mem_cons.mp hm with hm | hm
        · rw [h3 hm, Mode.frz_w] at hw
          cases hw
        · exact h5 hm
      · rw [Mode.frz_w] at hw
        cases hw
theorem freeze_len : ∀ {S : List Nat} {E : Env}, (freeze E S).length = E.length
  | [], _ => rfl
  | j :: S, E => (freeze_len (S := S) (E := VL.frz1 E j)).trans frz1_len
theorem Rel.freeze : ∀ {S : List Nat} {E : Env}, Rel G C H σ E Fs → Rel G C H σ (VL.freeze E S) Fs
  | [], _, R => R
  | j :: S, E, R => Rel.freeze (S := S) (R.frz1 (j := j))
theorem FsSet_self : FsSet Fs i F i = F := if_pos rfl
/-- a slot is set to what an expression gave -/
theorem Rel.putV {S : List Nat} {H1 : Hp} (R : Rel G C H σ E Fs) (hi : i < E.length) (hn : ∀ a, H1 a = none → C.H0 a = none ∧ ¬ C.T a) (rd : Rds G H d v F) (vw : Vw H1 E Fs S F) : Rel G C H (σ.set i (some v)) (putV E i S d) (FsSet Fs i F) := by
  have R1 := R.freeze (S := S)
  unfold VL.putV
  have asg : ∀ {j}, Asg E j → ∀ a, a ∈ Fs j → newAll E S = true → j ∈ S → C.H0 a = none := fun {j} ⟨m, d, e⟩ a ha hn hj => by
    have z := List.all_eq_true.mp hn j hj
    rw [e] at z
    exact (R.nw j m d e).1 z a ha
  have c2 : ∀ m, m = Mode.shr ∨ m = Mode.arg → ∀ j m' d', j ≠ i → (VL.freeze E S)[j]? = some (some (m', d')) → (m.w = true ∨ m'.w = true) → ∀ a ∈ F, a ∉ Fs j := fun m hm j m' d' hj e hw a ha hf => by
    have hw' : m'.w = true := hw.elim (fun z => by rcases hm with rfl | rfl <;> cases z) id
    obtain ⟨m0, e0, h0⟩ := freeze_get.2 m' d' e
    obtain ⟨h1, h2⟩ := h0 hw'
    subst h1
    rcases vw a ha with ⟨s, hs, ⟨m3, d3, e3⟩, h3⟩ | h3
    · exact (R.nd j _ d' e0 hw').2.2 s m3 d3 (fun z => h2 (by rw [← z]; exact hs)) e3 a hf h3
    · exact h3.2 j ⟨_, _, e0⟩ hf
  split
  · rename_i hnew
    refine R1.set (by rw [freeze_len]; exact hi) rd (by decide) (fun z => by cases z) (c2 _ (.inl rfl)) (fun _ a ha => ?_)
    rcases vw a ha with ⟨s, hs, h2, h3⟩ | h3
    · exact asg h2 a h3 hnew hs
    · exact (hn a h3.1).1
  · exact R1.set (by rw [freeze_len]; exact hi) rd (by decide) (fun z => by cases z) (c2 _ (.inr rfl)) (fun z => by cases z)
theorem Rel.setOwn {H1 : Hp} (R : Rel G C H σ E Fs) (hi : i < E.length) (hn : ∀ a, H1 a = none → C.H0 a = none ∧ ¬ C.T a) (rd : Rds G H d v F) (nd : F.Nodup) (l : ∀ a ∈ F, Loose H1 E Fs a) : Rel G C H (σ.set i (some v)) (E.set i (some (.own, d))) (FsSet Fs i F) :=
  R.set hi rd (by decide) (fun _ => ⟨nd, fun a ha => (hn a (l a ha).1).2⟩) (fun j m' d' hj e _ a ha => (l a ha).2 j ⟨m', d', e⟩) (fun _ a ha => (hn a (l a ha).1).1)
theorem flat_one {d : D} {v : V} {F : List Addr} (hf : d.flat = true) (r : Rds G H d v F) : ∃ a, F = [a] ∧ d.node = true := by
  cases d <;> unfold D.flat at hf <;> first | cases hf | skip
  · obtain ⟨a, us, A, rfl, h3, h4, rfl⟩ := rds_lst.mp r
    rw [RdsL.atom _ _ _ hf h4]
    exact ⟨a, rfl, rfl⟩
  · obtain ⟨a, us, A, rfl, h3, _, h4, rfl⟩ := rds_dct.mp r
    rw [RdsL.atom _ _ _ hf h4]
    exact ⟨a, rfl, rfl⟩
theorem Rel.putE {H1 : Hp} {k : Kind} (R : Rel G C H σ E Fs) (hi : i < E.length) (hn : ∀ a, H1 a = none → C.H0 a = none ∧ ¬ C.T a) (rd : Rds G H d v F) (ko : KOk σ H1 E Fs k d v F) : Rel G C H (σ.set i (some v)) (putE E i k d) (FsSet Fs i F) := by
  unfold VL.putE
  split
  · rename_i ha
    have e := Rds.atom d v F ha rd
    subst e
    exact R.setOwn (H1 := H1) hi hn rd List.nodup_nil (fun a h => by cases h)
  · cases k with
    | own => exact R.setOwn hi hn rd ko.1 (fun a ha => (ko.2 a ha).elim (fun ⟨_, z, _⟩ => by cases z) id)
    | sub j => exact R.putV hi hn rd (KOk.vw (k := .sub j) (d := d) ko)
    | top S =>
      dsimp only
      split
      · rename_i hf
        obtain ⟨a, rfl, hnode⟩ := flat_one hf rd
        refine R.setOwn hi hn rd (by simp) (fun b hb => ?_)
        rw [List.mem_singleton.mp hb]
        exact ko.2 a [] hnode rfl
      · exact R.putV hi hn rd ko.1
    | vw S => exact R.putV hi hn rd ko
    | ref j => exact R.putV hi hn rd (KOk.vw (k := .ref j) (d := d) ko)
theorem Rel.hn {H1 : Hp} {σ1 : L2.St} {E1 : Env} {Fs1 : Nat → List Addr} (R : Rel G C H1 σ1 E1 Fs1) : ∀ a, H1 a = none → C.H0 a = none ∧ ¬ C.T a := fun a n => ⟨R.fr.back n, fun t => by
  obtain ⟨o, e, _⟩ := R.pt a t
  obtain ⟨o', e'⟩ := R.pr.there e
  rw [n] at e'
  cases e'⟩
end
/-! ### statements -/
inductive Out where
  | nx (E : Env) | rt (d : D) (E : Env) | bk (E : Env) | ct (E : Env)
abbrev SF := Env → Option Out
/-- of what is returned: new, none of it in what was handed in to be written; ro: nothing twice -/
def RetOk (ro : Bool) (C : Ctx) (E : Env) (Fs : Nat → List Addr) (F : List Addr) : Prop := (ro = true → F.Nodup) ∧ ∀ a ∈ F, C.H0 a = none ∧ ∀ i d, E[i]? = some (some (.io, d)) → a ∉ Fs i
def Post (G : Gb) (ro : Bool) (C : Ctx) (N : Ends) : Out → Prop
  | .nx E => ∀ σ H Fs, Rel G C H σ E Fs → N.nx σ H
  | .bk E => ∀ σ H Fs, Rel G C H σ E Fs → N.bk σ H
  | .ct E => ∀ σ H Fs, Rel G C H σ E Fs → N.ct σ H
  | .rt d E => ∀ v σ H Fs F, Rel G C H σ E Fs → Rds G H d v F → RetOk ro C E Fs F → N.rt v H
def tVS (G : Gb) (ro : Bool) (S : SF) : TS := fun N σ H => ∃ C E Fs, Rel G C H σ E Fs ∧ ∃ o, S E = some o ∧ Post G ro C N o
abbrev VS (G : Gb) (X : Cx) (ro : Bool) (st : Stmt) (S : SF) : Prop := PS X st (tVS G ro S)
abbrev VSs (G : Gb) (X : Cx) (ro : Bool) (sts : List Stmt) (S : SF) : Prop := PSs X sts (tVS G ro S)
def sNext : SF := fun E => some (.nx E)
def sNever : SF := fun _ => none
def sBreak : SF := fun E => some (.bk E)
def sCont : SF := fun E => some (.ct E)
def sSeq (S T : SF) : SF := fun E => match S E with
  | some (.nx E') => T E'
  | r => r
section
variable {G : Gb} {X : Cx} {ro : Bool} {st : Stmt} {rest : List Stmt} {S T : SF} {e : Expr} {M : List Nat} {k : Kind} {f : EF} {pos : Pos}
theorem vss_nil : VSs G X ro [] sNext := PSs.imp pss_nil fun N σ H ⟨C, E, Fs, R, o, e, q⟩ => by
  cases e
  exact q σ H Fs R
theorem vs_pass : VS G X ro (.Pass pos) sNext := PS.imp ps_pass fun N σ H ⟨C, E, Fs, R, o, e, q⟩ => by
  cases e
  exact q σ H Fs R
theorem vs_break : VS G X ro (.Break pos) sBreak := PS.imp ps_break fun N σ H ⟨C, E, Fs, R, o, e, q⟩ => by
  cases e
  exact q σ H Fs R
theorem vs_cont : VS G X ro (.Continue pos) sCont := PS.imp ps_continue fun N σ H ⟨C, E, Fs, R, o, e, q⟩ => by
  cases e
  exact q σ H Fs R
theorem vs_doc {x j pos'} : VS G X ro (.Expr (.Constant (.str x) j pos) pos') sNext := PS.imp ps_doc fun N σ H ⟨C, E, Fs, R, o, e, q⟩ => by
  cases e
  exact q σ H Fs R
theorem vs_never : VS G X ro st sNever := PS.imp ps_never fun N σ H ⟨C, E, Fs, R, o, e, q⟩ => by cases e
theorem vss_never {sts : List Stmt} : VSs G X ro sts sNever := PSs.imp pss_never fun N σ H ⟨C, E, Fs, R, o, e, q⟩ => by cases e
theorem vss_cons (h1 : VS G X ro st S) (h2 : VSs G X ro rest T) : VSs G X ro (st :: rest) (sSeq S T) := PSs.imp (pss_cons h1 h2) fun N σ H ⟨C, E, Fs, R, o, e, q⟩ => by
  unfold sSeq at e
  split at e
  · rename_i E1 e1
    exact ⟨C, E, Fs, R, _, e1, fun σ1 H1 Fs1 R1 => ⟨C, E1, Fs1, R1, o, e, q⟩⟩
  · rename_i hn
    refine ⟨C, E, Fs, R, o, e, ?_⟩
    cases o with
    | nx E' => exact absurd e (hn E')
    | rt d E' => exact q
    | bk E' => exact q
    | ct E' => exact q
theorem vss_one (h1 : VS G X ro st S) : VSs G X ro [st] S := pss_one h1
def sDrop (f : EF) : SF := fun E => match f E with
  | some (_, E') => some (.nx E')
  | none => none
theorem vs_expr (he : VE G X e M k f) (hs : swapsWith e none pos.line X.env = pure false := by rfl) : VS G X ro (.Expr e pos) (sDrop f) := PS.imp (ps_expr he hs) fun N σ H ⟨C, E, Fs, R, o, e, q⟩ => by
  unfold sDrop at e
  split at e
  · rename_i d E1 e1
    cases e
    exact ⟨C, E, Fs, R, d, E1, e1, fun v H' Fs' F R' s' r' k' => q σ H' Fs' R'⟩
  · cases e
/-- return e -/
def allNew (E : Env) (S : List Nat) : Bool := S.all fun j => match E[j]? with
  | some (some (m, _)) => m.new
  | _ => true
def retOk (ro : Bool) (k : Kind) (E : Env) (d : D) : Bool := d.atom || match k with
  | .own => true
  | .sub i => (match E[i]? with
    | some (some (.own, _)) => true
    | some (some (.shr, _)) => !ro
    | _ => false)
  | .top S => d.flat || (!ro && allNew E S)
  | .vw S => !ro && allNew E S
  | .ref _ => false
def sRet (ro : Bool) (k : Kind) (f : EF) : SF := fun E => match f E with
  | some (d, E') => if retOk ro k E' d then some (.rt d E') else none
  | none => none
theorem retOk_of {C : Ctx} {H H1 : Hp} {σ : L2.St} {E : Env} {Fs : Nat → List Addr} {d : D} {v : V} {F : List Addr} (h : retOk ro k E d = true) (R : Rel G C H σ E Fs) (hn : ∀ a, H1 a = none → C.H0 a = none ∧ ¬ C.T a) (rd : Rds G H d v F) (ko : KOk σ H1 E Fs k d v F) : RetOk ro C E Fs F := by
  have vwCase : ∀ {S : List Nat}, allNew E S = true → Vw H1 E Fs S F → ∀ a ∈ F, C.H0 a = none ∧ ∀ i d, E[i]? = some (some (.io, d)) → a ∉ Fs i := fun {S} hS vw a ha => by
    rcases vw a ha with ⟨s, hs, ⟨m, d, e⟩, h3⟩ | h3
    · have z := List.all_eq_true.mp hS s hs
      rw [e] at z
      refine ⟨(R.nw s m d e).1 z a h3, fun i d' e' hi => ?_⟩
      by_cases hsi : s = i
      · subst hsi
        rw [e] at e'
        cases e'
        cases z
      · exact (R.nd i .io d' e' rfl).2.2 s m d hsi e a hi h3
    · exact ⟨(hn a h3.1).1, fun i d' e' => h3.2 i ⟨_, _, e'⟩⟩
  unfold retOk at h
  rw [Bool.or_eq_true] at h
  rcases h with h | h
  · have e := Rds.atom d v F h rd
    subst e
    exact ⟨fun _ => List.nodup_nil, fun a ha => by cases ha⟩
  · cases k with
    | own => exact ⟨fun _ => ko.1, fun a ha => vwCase (S := []) rfl ko.2 a ha⟩
    | sub i =>
      dsimp only at h
      split at h
      · rename_i d' e
        exact ⟨fun _ => ko.2.nodup (R.nd i _ _ e rfl).1, fun a ha => vwCase (S := [i]) (by simp only [allNew, List.all_cons, e, List.all_nil]; rfl) (KOk.vw (k := .sub i) (d := d) ko) a ha⟩
      · rename_i d' e
        refine ⟨fun z => ?_, fun a ha => vwCase (S := [i]) (by simp only [allNew, List.all_cons, e, List.all_nil]; rfl) (KOk.vw (k := .sub i) (d := d) ko) a ha⟩
        rw [z] at h
        cases h
      · cases h
    | top S =>
      dsimp only at h
      rw [Bool.or_eq_true, Bool.and_eq_true] at h
      rcases h with h | ⟨h1, h2⟩
      · obtain ⟨a, rfl, hnode⟩ := flat_one h rd
        have l := ko.2 a [] hnode rfl
        refine ⟨fun _ => by simp, fun b hb => ?_⟩
        rw [List.mem_singleton.mp hb]
        exact ⟨(hn a l.1).1, fun i d' e' => l.2 i ⟨_, _, e'⟩⟩
      · refine ⟨fun z => ?_, vwCase h2 ko.1⟩
        rw [z] at h1
        cases h1
    | vw S =>
      dsimp only at h
      rw [Bool.and_eq_true] at h
      refine ⟨fun z => ?_, vwCase h.2 ko⟩
      rw [z] at h
      cases h.1
    | ref i => cases h
theorem vs_ret (he : VE G X e M k f) : VS G X ro (.Return (some e) pos) (sRet ro k f) := PS.imp (ps_ret he) fun N σ H ⟨C, E, Fs, R, o, e, q⟩ => by
  unfold sRet at e
  split at e
  · rename_i d E1 e1
    split at e
    · rename_i hr
      cases e
      exact ⟨C, E, Fs, R, d, E1, e1, fun v H' Fs' F R' s' r' k' => q v σ H' Fs' F R' r' (retOk_of hr R' R.hn r' k')⟩
    · cases e
  · cases e
def sRetN : SF := fun E => some (.rt .non E)
theorem vs_retN : VS G X ro (.Return none pos) sRetN := PS.imp ps_retN fun N σ H ⟨C, E, Fs, R, o, e, q⟩ => by
  cases e
  exact q .non σ H Fs [] R (rds_non.mpr ⟨rfl, rfl⟩) ⟨fun _ => List.nodup_nil, fun a ha => by cases ha⟩
def sIf (t : TF) (S T : SF) : SF := fun E => match t E with
  | some (true, E') => S E'
  | some (false, E') => T E'
  | none => none
theorem vs_if {c : Expr} {a b : List Stmt} {t : TF} (hc : VT G X c M t) (ha : VSs G X ro a S) (hb : VSs G X ro b T) : VS G X ro (.If c a b pos) (sIf t S T) := PS.imp (ps_if hc ha hb) fun N σ H ⟨C, E, Fs, R, o, e, q⟩ => by
  unfold sIf at e
  split at e
  · rename_i E1 e1
    refine ⟨C, E, Fs, R, true, E1, e1, fun H1 Fs1 R1 s1 => ?_⟩
    exact ite_tt ⟨C, E1, Fs1, R1, o, e, q⟩
  · rename_i E1 e1
    refine ⟨C, E, Fs, R, false, E1, e1, fun H1 Fs1 R1 s1 => ?_⟩
    exact ite_ff ⟨C, E1, Fs1, R1, o, e, q⟩
  · cases e
/-- name = e -/
def sSet (i : Nat) (k : Kind) (f : EF) : SF := fun E => match f E with
  | some (d, E') => if i < E'.length then some (.nx (putE E' i k d)) else none
  | none => none
theorem asg_set {i : Nat} {N : Ends} {σ : L2.St} {H : Hp} (h : tVS G ro (sSet i k f) N σ H) : tV G M k f σ H fun x H1 => gName i x σ H1 N.nx := by
  obtain ⟨C, E, Fs, R, o, e, q⟩ := h
  unfold sSet at e
  split at e
  · rename_i d E1 e1
    split at e
    · rename_i hi
      cases e
      exact ⟨C, E, Fs, R, d, E1, e1, fun v H' Fs' F R' s' r' k' => q _ _ _ (R'.putE hi R.hn r' k')⟩
    · cases e
  · cases e
theorem vs_set {i : Nat} {x : Str} {pos' : Pos} (hN : X.N.Nodup) (hi : X.N[i]? = some x) (hx : Loc X.env.scope x) (he : VE G X e M k f) (hs : swapsWith e (some (.Name x pos')) pos.line X.env = pure false := by rfl)
    (hf : X.fn x = true ∨ X.env.scope.names.lookup x = some .local := by first | exact .inl rfl | exact .inr rfl | assumption) : VS G X ro (.Assign [.Name x pos'] e pos) (sSet i k f) :=
  PS.imp (ps_set hN hi hx he hs hf) fun N σ H h => asg_set (M := M) h
end
end
end VL
set_option maxHeartbeats 4000000
namespace VL
noncomputable section
open PySem PySem.Spec PyProof.Rows L2
open GxR (TabB TabG Tabbed)
/-! ### targets -/
/-- what is bound: of an expression's kind, or of what stands meanwhile (b: made in the call) -/
inductive BK where
  | ex (k : Kind) | pr (b : Bool)
def putP (E : Env) (i : Nat) (b : Bool) (d : D) : Env := if d.atom then E.set i (some (.own, d)) else E.set i (some (if b then .shr else .arg, d))
def bindN (bk : BK) (i : Nat) (d : D) (E : Env) : Env := match bk with
  | .ex k => putE E i k d
  | .pr b => putP E i b d
def BK.part : BK → BK
  | .ex k => .ex (kPart [k])
  | .pr b => .pr b
/-- slots that must not be set ahead of another part -/
def BK.S : BK → List Nat
  | .ex k => k.S
  | .pr _ => []
def BOk (σ : L2.St) (C : Ctx) (H : Hp) (E : Env) (Fs : Nat → List Addr) (bk : BK) (d : D) (v : V) (F : List Addr) : Prop := match bk with
  | .ex k => KOk σ H E Fs k d v F
  | .pr b => (∀ a ∈ F, C.T a) ∧ (b = true → ∀ a ∈ F, C.H0 a = none)
/-- of several parts -/
def BOkL (C : Ctx) (H : Hp) (E : Env) (Fs : Nat → List Addr) (bk : BK) (F : List Addr) : Prop := match bk with
  | .ex .own => F.Nodup ∧ Vw H E Fs [] F
  | .ex (.sub i) => Asg E i ∧ F.Sublist (Fs i)
  | .ex (.ref i) => Asg E i ∧ F.Sublist (Fs i)
  | .ex (.top S) => Vw H E Fs S F
  | .ex (.vw S) => Vw H E Fs S F
  | .pr b => (∀ a ∈ F, C.T a) ∧ (b = true → ∀ a ∈ F, C.H0 a = none)
/-- slots W were set to parts of F -/
structure BStp (bk : BK) (W : List Nat) (F : List Addr) (σ σ' : L2.St) (E E' : Env) (Fs Fs' : Nat → List Addr) : Prop where
  fs : ∀ i, i ∉ W → Fs' i = Fs i
  inW : ∀ i ∈ W, ∀ a ∈ Fs' i, a ∈ F
  asg : ∀ i, i ∉ W → (Asg E' i ↔ Asg E i)
  aw : ∀ i ∈ W, Asg E' i
  cov : ∀ a ∈ F, ∃ i ∈ W, a ∈ Fs' i
  len : σ'.length = σ.length
  sg : ∀ i, i ∉ W → σ'[i]? = σ[i]?
  env : ∀ b, bk = .pr b → ∀ i, i ∉ W → E'[i]? = E[i]?
def tVG (G : Gb) (bk : BK) (W : List Nat) (g : D → Env → Option Env) : TG := fun v σ H Q => ∃ C E Fs H1 F d, Rel G C H σ E Fs ∧ (∀ a, H1 a = none → C.H0 a = none ∧ ¬ C.T a) ∧ Rds G H d v F ∧ BOk σ C H1 E Fs bk d v F ∧
  ∃ E', g d E = some E' ∧ ∀ σ' Fs', Rel G C H σ' E' Fs' → BStp bk W F σ σ' E E' Fs Fs' → Q σ' H
abbrev VG (G : Gb) (X : Cx) (t : Expr) (bk : BK) (W : List Nat) (g : D → Env → Option Env) : Prop := PG X t (tVG G bk W g)
def tVGs (G : Gb) (bk : BK) (W : List Nat) (g : List D → Env → Option Env) : TGs := fun vs σ H Q => ∃ C E Fs H1 F ds, Rel G C H σ E Fs ∧ (∀ a, H1 a = none → C.H0 a = none ∧ ¬ C.T a) ∧ RdsL G H ds vs F ∧ BOkL C H1 E Fs bk F ∧
  ∃ E', g ds E = some E' ∧ ∀ σ' Fs', Rel G C H σ' E' Fs' → BStp bk W F σ σ' E E' Fs Fs' → Q σ' H
abbrev VGs (G : Gb) (X : Cx) (t : List Expr) (bk : BK) (W : List Nat) (g : List D → Env → Option Env) : Prop := PGs X t (tVGs G bk W g)
theorem PG.imp {X : Cx} {e : Expr} {t t' : TG} (h : PG X e t) (i : ∀ v σ H Q, t' v σ H Q → t v σ H Q) : PG X e t' := ⟨fun pins s σ H v u Q I r q => h.run pins s σ H v u Q I r (i v σ H Q q)⟩
theorem PGs.imp {X : Cx} {e : List Expr} {t t' : TGs} (h : PGs X e t) (i : ∀ v σ H Q, t' v σ H Q → t v σ H Q) : PGs X e t' := ⟨fun pins s σ H v u Q I r q => h.run pins s σ H v u Q I r (i v σ H Q q)⟩
def gSet (bk : BK) (i : Nat) : D → Env → Option Env := fun d E => if i < E.length then some (bindN bk i d E) else none
section
variable {G : Gb} {X : Cx} {C : Ctx} {H : Hp} {σ : L2.St} {E : Env} {Fs : Nat → List Addr} {i : Nat} {d : D} {v : V} {F : List Addr} {bk : BK}
theorem Rel.putP {b : Bool} (R : Rel G C H σ E Fs) (hi : i < E.length) (rd : Rds G H d v F) (h : (∀ a ∈ F, C.T a) ∧ (b = true → ∀ a ∈ F, C.H0 a = none)) : Rel G C H (σ.set i (some v)) (putP E i b d) (FsSet Fs i F) := by
  unfold VL.putP
  split
  · rename_i ha
    have e := Rds.atom d v F ha rd
    subst e
    exact R.setOwn (H1 := H) hi R.hn rd List.nodup_nil (fun a h => by cases h)
  · have c2 : ∀ m : Mode, m.w = false → ∀ j m' d', j ≠ i → E[j]? = some (some (m', d')) → (m.w = true ∨ m'.w = true) → ∀ a ∈ F, a ∉ Fs j := fun m hm j m' d' hj e hw a ha hf => by
      have hw' : m'.w = true := hw.elim (fun z => by rw [hm] at z; cases z) id
      exact (R.nd j m' d' e hw').2.1 a hf (h.1 a ha)
    cases b with
    | true => exact R.set hi rd (by decide) (fun z => by cases z) (c2 _ rfl) (fun _ => h.2 rfl)
    | false => exact R.set hi rd (by decide) (fun z => by cases z) (c2 _ rfl) (fun z => by cases z)
theorem asg_frz {S : List Nat} {j : Nat} : Asg (freeze E S) j ↔ Asg E j :=
  ⟨fun ⟨m, d, e⟩ => let ⟨m0, e0, _⟩ := freeze_get.2 m d e; ⟨m0, d, e0⟩, fun ⟨m, d, e⟩ => let ⟨m0, e0, _⟩ := freeze_get.1 m d e; ⟨m0, d, e0⟩⟩
theorem asg_set_ne {x : Option (Mode × D)} {j : Nat} (h : j ≠ i) : Asg (E.set i x) j ↔ Asg E j := by
  unfold Asg
  rw [List.getElem?_set_ne (Ne.symm h)]
theorem asg_putV {S : List Nat} {j : Nat} (h : j ≠ i) : Asg (putV E i S d) j ↔ Asg E j := by
  unfold putV
  rw [asg_set_ne h, asg_frz]
theorem asg_bind {j : Nat} (h : j ≠ i) : Asg (bindN bk i d E) j ↔ Asg E j := by
  cases bk with
  | ex k =>
    show Asg (putE E i k d) j ↔ _
    unfold putE
    split
    · exact asg_set_ne h
    · cases k with
      | own => exact asg_set_ne h
      | sub l => exact asg_putV h
      | ref l => exact asg_putV h
      | vw S => exact asg_putV h
      | top S =>
        dsimp only
        split
        · exact asg_set_ne h
        · exact asg_putV h
  | pr b =>
    show Asg (putP E i b d) j ↔ _
    unfold putP
    split
    · exact asg_set_ne h
    · exact asg_set_ne h
theorem get_set_self {x : Mode × D} (hi : i < E.length) : Asg (E.set i (some x)) i := ⟨x.1, x.2, List.getElem?_set_self hi⟩
theorem asg_putV_self {S : List Nat} (hi : i < E.length) : Asg (putV E i S d) i := by
  unfold putV
  exact get_set_self (by rw [freeze_len]; exact hi)
theorem asg_bind_self (hi : i < E.length) : Asg (bindN bk i d E) i := by
  cases bk with
  | ex k =>
    show Asg (putE E i k d) i
    unfold putE
    split
    · exact get_set_self hi
    · cases k with
      | own => exact get_set_self hi
      | sub l => exact asg_putV_self hi
      | ref l => exact asg_putV_self hi
      | vw S => exact asg_putV_self hi
      | top S =>
        dsimp only
        split
        · exact get_set_self hi
        · exact asg_putV_self hi
  | pr b =>
    show Asg (putP E i b d) i
    unfold putP
    split
    · exact get_set_self hi
    · exact get_set_self hi
theorem Rel.bind {H1 : Hp} (R : Rel G C H σ E Fs) (hi : i < E.length) (hn : ∀ a, H1 a = none → C.H0 a = none ∧ ¬ C.T a) (rd : Rds G H d v F) (bo : BOk σ C H1 E Fs bk d v F) : Rel G C H (σ.set i (some v)) (bindN bk i d E) (FsSet Fs i F) ∧ BStp bk [i] F σ (σ.set i (some v)) E (bindN bk i d E) Fs (FsSet Fs i F) := by
  refine ⟨?_, fun j hj => if_neg fun z => hj (by rw [z]; exact List.mem_singleton.mpr rfl), fun j hj a ha => ?_, fun j hj => asg_bind fun z => hj (by rw [z]; exact List.mem_singleton.mpr rfl), fun j hj => (by rw [List.mem_singleton.mp hj]; exact asg_bind_self hi), fun a ha => ⟨i, List.mem_singleton.mpr rfl, by rw [FsSet_self]; exact ha⟩, List.length_set, fun j hj => List.getElem?_set_ne (fun z => hj (by rw [z]; exact List.mem_singleton.mpr rfl)), fun b hb j hj => ?_⟩
  · cases bk with
    | ex k => exact R.putE hi hn rd bo
    | pr b => exact R.putP hi rd bo
  · rw [List.mem_singleton.mp hj, FsSet_self] at ha
    exact ha
  · subst hb
    have hne : i ≠ j := fun z => hj (by rw [z]; exact List.mem_singleton.mpr rfl)
    show (VL.putP E i b d)[j]? = E[j]?
    unfold VL.putP
    split <;> exact List.getElem?_set_ne hne
theorem vg_name {x : Str} {pos : Pos} (hN : X.N.Nodup) (hi : X.N[i]? = some x) (hx : Loc X.env.scope x) (hf : X.fn x = true ∨ X.env.scope.names.lookup x = some .local := by first | exact .inl rfl | exact .inr rfl | assumption) : VG G X (.Name x pos) bk [i] (gSet bk i) :=
  PG.imp (pg_name hN hi hx hf) fun v σ H Q ⟨C, E, Fs, H1, F, d, R, hn, rd, bo, E', e, q⟩ => by
    unfold gSet at e
    split at e
    · rename_i hl
      cases e
      obtain ⟨R', b'⟩ := R.bind hl hn rd bo
      exact q _ _ R' b'
    · cases e
def gsNil : List D → Env → Option Env
  | [], E => some E
  | _, _ => none
def gsCons (g : D → Env → Option Env) (gs : List D → Env → Option Env) : List D → Env → Option Env
  | d :: ds, E => match g d E with
    | some E' => gs ds E'
    | none => none
  | [], _ => none
theorem vgs_nil : VGs G X [] bk [] gsNil := PGs.imp pgs_nil fun vs σ H Q ⟨C, E, Fs, H1, F, ds, R, hn, rd, bo, E', e, q⟩ => by
  cases ds with
  | nil =>
    cases e
    exact ⟨(rdsL_nil.mp rd).1, q σ Fs R ⟨fun _ _ => rfl, fun i hi => (by cases hi), fun _ _ => Iff.rfl, fun i hi => (by cases hi), fun a ha => (by rw [(rdsL_nil.mp rd).2] at ha; cases ha), rfl, fun _ _ => rfl, fun _ _ _ _ => rfl⟩⟩
  | cons d ds => cases e
theorem BOkL.split {H1 : Hp} {A B : List Addr} (h : BOkL C H1 E Fs bk (A ++ B)) : BOkL C H1 E Fs bk A ∧ BOkL C H1 E Fs bk B := by
  have vw : ∀ {S}, Vw H1 E Fs S (A ++ B) → Vw H1 E Fs S A ∧ Vw H1 E Fs S B := fun z => ⟨fun a ha => z a (List.mem_append_left _ ha), fun a ha => z a (List.mem_append_right _ ha)⟩
  cases bk with
  | pr b => exact ⟨⟨fun a ha => h.1 a (List.mem_append_left _ ha), fun z a ha => h.2 z a (List.mem_append_left _ ha)⟩, ⟨fun a ha => h.1 a (List.mem_append_right _ ha), fun z a ha => h.2 z a (List.mem_append_right _ ha)⟩⟩
  | ex k =>
    cases k with
    | own =>
      obtain ⟨h1, h2⟩ := h
      rw [List.nodup_append] at h1
      exact ⟨⟨h1.1, (vw h2).1⟩, ⟨h1.2.1, (vw h2).2⟩⟩
    | sub i => exact ⟨⟨h.1, (List.sublist_append_left A B).trans h.2⟩, ⟨h.1, (List.sublist_append_right A B).trans h.2⟩⟩
    | ref i => exact ⟨⟨h.1, (List.sublist_append_left A B).trans h.2⟩, ⟨h.1, (List.sublist_append_right A B).trans h.2⟩⟩
    | top S => exact vw h
    | vw S => exact vw h
/-- what a part is bound as -/
theorem BOkL.one {H1 : Hp} {A : List Addr} (h : BOkL C H1 E Fs bk A) : BOk σ C H1 E Fs bk.part d v A := by
  cases bk with
  | pr b => exact h
  | ex k => cases k <;> exact h
/-- the kind of the parts behind one that was bound to W -/
def BK.nxt (W : List Nat) : BK → BK
  | .ex (.top S) => .ex (.vw (S ++ W))
  | .ex (.vw S) => .ex (.vw (S ++ W))
  | bk => bk
def BK.clear (W : List Nat) (bk : BK) : Bool := bk.S.all fun i => !W.contains i
theorem BOkL.step {H1 : Hp} {W : List Nat} {A B : List Addr} {E' : Env} {σ' : L2.St} {bk' : BK} {Fs' : Nat → List Addr} (h : BOkL C H1 E Fs bk (A ++ B)) (s : BStp bk' W A σ σ' E E' Fs Fs') (hc : bk.clear W = true) : BOkL C H1 E' Fs' (bk.nxt W) B := by
  have hs : ∀ i ∈ bk.S, i ∉ W := fun i hi hm => by
    have := List.all_eq_true.mp hc i hi
    simp [hm] at this
  have lo : ∀ a, a ∉ A → Loose H1 E Fs a → Loose H1 E' Fs' a := fun a ha l => ⟨l.1, fun j hj hm => by
    by_cases hw : j ∈ W
    · exact ha (s.inW j hw a hm)
    · rw [s.fs j hw] at hm
      exact l.2 j ((s.asg j hw).mp hj) hm⟩
  have vw : ∀ {S}, (∀ i ∈ S, i ∉ W) → Vw H1 E Fs S (A ++ B) → Vw H1 E' Fs' (S ++ W) B := fun {S} hS z a ha => by
    rcases z a (List.mem_append_right _ ha) with ⟨i, hi, h1, h2⟩ | l
    · exact .inl ⟨i, List.mem_append_left _ hi, (s.asg i (hS i hi)).mpr h1, by rw [s.fs i (hS i hi)]; exact h2⟩
    · by_cases hA : a ∈ A
      · obtain ⟨j, hj, hm⟩ := s.cov a hA
        exact .inl ⟨j, List.mem_append_right _ hj, s.aw j hj, hm⟩
      · exact .inr (lo a hA l)
  cases bk with
  | pr b => exact ⟨fun a ha => h.1 a (List.mem_append_right _ ha), fun z a ha => h.2 z a (List.mem_append_right _ ha)⟩
  | ex k =>
    cases k with
    | own =>
      obtain ⟨h1, h2⟩ := h
      rw [List.nodup_append] at h1
      refine ⟨h1.2.1, fun a ha => .inr (lo a (fun z => h1.2.2 a z a ha rfl) ?_)⟩
      rcases h2 a (List.mem_append_right _ ha) with ⟨_, z, _⟩ | z
      · cases z
      · exact z
    | sub i =>
      have n := hs i (List.mem_singleton.mpr rfl)
      exact ⟨(s.asg i n).mpr h.1, by rw [s.fs i n]; exact (List.sublist_append_right A B).trans h.2⟩
    | ref i =>
      have n := hs i (List.mem_singleton.mpr rfl)
      exact ⟨(s.asg i n).mpr h.1, by rw [s.fs i n]; exact (List.sublist_append_right A B).trans h.2⟩
    | top S => exact vw hs h
    | vw S => exact vw hs h
theorem vgs_cons {e : Expr} {es : List Expr} {W W' : List Nat} {g : D → Env → Option Env} {gs : List D → Env → Option Env} (h1 : VG G X e bk.part W g) (h2 : VGs G X es (bk.nxt W) W' gs) (hc : bk.clear W = true := by rfl) (hd : (W.all fun j => !W'.contains j) = true := by rfl)
    (hs : (assignEach (e :: es) X.env).map (·.2) = assign e X.env :: (assignEach es X.env).map (·.2) := by rfl) : VGs G X (e :: es) bk (W ++ W') (gsCons g gs) :=
  PGs.imp (pgs_cons h1 h2 hs) fun vs σ H Q ⟨C, E, Fs, H1, F, ds, R, hn, rd, bo, E', e, q⟩ => by
    cases ds with
    | nil => cases e
    | cons d ds =>
      obtain ⟨x, r, A, B, rfl, rfl, r1, r2⟩ := rdsL_cons.mp rd
      have e : (match g d E with
        | some E' => gs ds E'
        | none => none) = some E' := e
      cases e1 : g d E with
      | none => rw [e1] at e; cases e
      | some E1 =>
        rw [e1] at e
        refine ⟨x, r, rfl, C, E, Fs, H1, A, d, R, hn, r1, bo.split.1.one, E1, e1, fun σ1 Fs1 R1 b1 => ⟨C, E1, Fs1, H1, B, ds, R1, hn, r2, bo.step b1 hc, E', e, fun σ2 Fs2 R2 b2 => q σ2 Fs2 R2 ?_⟩⟩
        refine ⟨fun i hi => ?_, fun i hi a ha => ?_, fun i hi => ?_, fun i hi => ?_, fun a ha => ?_, b2.len.trans b1.len, fun i hi => (b2.sg i fun z => hi (List.mem_append_right _ z)).trans (b1.sg i fun z => hi (List.mem_append_left _ z)), fun b hb i hi => ?_⟩
        · rw [b2.fs i fun z => hi (List.mem_append_right _ z)]
          exact b1.fs i fun z => hi (List.mem_append_left _ z)
        · by_cases h2 : i ∈ W'
          · exact List.mem_append_right _ (b2.inW i h2 a ha)
          · rw [b2.fs i h2] at ha
            rcases List.mem_append.mp hi with z | z
            · exact List.mem_append_left _ (b1.inW i z a ha)
            · exact absurd z h2
        · rw [b2.asg i fun z => hi (List.mem_append_right _ z)]
          exact b1.asg i fun z => hi (List.mem_append_left _ z)
        · by_cases h2 : i ∈ W'
          · exact b2.aw i h2
          · rw [b2.asg i h2]
            rcases List.mem_append.mp hi with z | z
            · exact b1.aw i z
            · exact absurd z h2
        · rcases List.mem_append.mp ha with z | z
          · obtain ⟨j, hj, hm⟩ := b1.cov a z
            by_cases h2 : j ∈ W'
            · have := List.all_eq_true.mp hd j hj
              simp [h2] at this
            · exact ⟨j, List.mem_append_left _ hj, by rw [b2.fs j h2]; exact hm⟩
          · obtain ⟨j, hj, hm⟩ := b2.cov a z
            exact ⟨j, List.mem_append_right _ hj, hm⟩
        · subst hb
          exact (b2.env b rfl i fun z => hi (List.mem_append_right _ z)).trans (b1.env b rfl i fun z => hi (List.mem_append_left _ z))
theorem BOk.l {H1 : Hp} (h : BOk σ C H1 E Fs bk d v F) : BOkL C H1 E Fs bk F := by
  cases bk with
  | pr b => exact h
  | ex k =>
    cases k with
    | own => exact h
    | sub i => exact h
    | ref i =>
      obtain ⟨m, e, _, rfl⟩ := h
      exact ⟨⟨m, d, e⟩, List.Sublist.refl _⟩
    | top S => exact h.1
    | vw S => exact h
def gTupE (n : Nat) (gs : List D → Env → Option Env) : D → Env → Option Env
  | .tup ds, E => if ds.length = n then gs ds E else none
  | _, _ => none
theorem vg_tup (x : XOk G X) {es : List Expr} {k n : Nat} {pos : Pos} {W : List Nat} {gs : List D → Env → Option Env} (h : VGs G X es bk W gs) (hn : (assignEach es X.env).length = n := by rfl) (hst : (assignEach es X.env).findIdx? (·.1) = none := by rfl) : VG G X (.Tuple es k pos) bk W (gTupE n gs) :=
  PG.imp (pg_tup x.calm h hn hst) fun v σ H Q ⟨C, E, Fs, H1, F, d, R, hn, rd, bo, E', e, q⟩ => by
    unfold gTupE at e
    split at e
    · rename_i ds
      split at e
      · rename_i hl
        obtain ⟨a, xs, rfl, h1, h2⟩ := rds_tup.mp rd
        rw [x.K]
        exact ⟨a, xs, rfl, h1, by rw [rdsL_len h2]; exact hl, C, E, Fs, H1, F, ds, R, hn, h2, bo.l, E', e, q⟩
      · cases e
    · cases e
/-- target = e -/
def sAsg (f : EF) (g : D → Env → Option Env) : SF := fun E => match f E with
  | some (d, E') => (match g d E' with
    | some E2 => some (.nx E2)
    | none => none)
  | none => none
theorem vs_asg {ro : Bool} {tg e : Expr} {M W : List Nat} {k : Kind} {f : EF} {g : D → Env → Option Env} {pos : Pos} (he : VE G X e M k f) (hg : VG G X tg (.ex k) W g) (hs : swapsWithSole [tg] e pos.line X.env = pure false := by rfl) (hw : swappedStores [tg] e X.env = pure none := by rfl)
    (h1 : (assignEach [tg] X.env).map (·.2) = [assign tg X.env] := by rfl) : VS G X ro (.Assign [tg] e pos) (sAsg f g) := PS.imp (ps_asg he hg hs hw h1) fun N σ H ⟨C, E, Fs, R, o, e, q⟩ => by
  unfold sAsg at e
  split at e
  · rename_i d E1 e1
    split at e
    · rename_i E2 e2
      cases e
      exact ⟨C, E, Fs, R, d, E1, e1, fun v H' Fs' F R' s' r' k' => ⟨C, E1, Fs', H, F, d, R', R.hn, r', k', E2, e2, fun σ2 Fs2 R2 _ => q σ2 H' Fs2 R2⟩⟩
    · cases e
  · cases e
/-- a, b = x, y by plain names -/
def sPar (i j : Nat) (k k' : Kind) (l : LF) : SF := fun E => match l E with
  | some ([d, d'], E') => if i < E'.length ∧ j < E'.length then some (.nx (putE (putE E' i k d) j k' d')) else none
  | _ => none
/-! ### loops -/
/-- J walks ds as long as what is at F stands as in Hb -/
structure ItOk (G : Gb) (J : It) (ds : List D) (F : List Addr) (Hb : Hp) : Prop where
  go : ∀ H i, Chg (fun a => a ∉ F) Hb H → i < ds.length → J.go i H
  yl : ∀ H i x H', Chg (fun a => a ∉ F) Hb H → i < ds.length → J.yld i H x H' → Chg No H H' ∧ ∃ d A, ds[i]? = some d ∧ Rds G H' d x A ∧ ∀ a ∈ A, a ∈ F
  st : ∀ H i, Chg (fun a => a ∉ F) Hb H → ds.length ≤ i → J.stop i H
abbrev IF := Env → Option (List D × Env)
def tVI (G : Gb) (M : List Nat) (k : Kind) (f : IF) : TI := fun σ H R => ∃ C E Fs, Rel G C H σ E Fs ∧ ∃ ds E', f E = some (ds, E') ∧
  ∀ J H' Fs' F, Rel G C H' σ E' Fs' → Stp M H H' E E' Fs Fs' → ItOk G J ds F H' → (∀ a ∈ F, ∃ o, H' a = some o ∧ MutO o = true) → Vw H E' Fs' k.S F → R J H'
abbrev VI (G : Gb) (X : Cx) (tg iter : Expr) (M : List Nat) (k : Kind) (f : IF) : Prop := PI X tg iter (tVI G M k f)
theorem PI.imp {tg e : Expr} {t t' : TI} (h : PI X tg e t) (i : ∀ σ H Q, t' σ H Q → t σ H Q) : PI X tg e t' := ⟨fun pins s σ H Q I q => h.run pins s σ H Q I (i σ H Q q)⟩
/-- the loop over ds -/
def forL (g : D → Env → Option Env) (b : SF) : List D → Env → Option Out
  | [], E => some (.nx E)
  | d :: ds, E => match g d E with
    | none => none
    | some E1 => match b E1 with
      | some (.nx E2) => forL g b ds E2
      | some (.ct E2) => forL g b ds E2
      | some (.bk E2) => some (.nx E2)
      | some (.rt r E2) => some (.rt r E2)
      | none => none
/-- g by whether what is walked was made in the call -/
def sFor (k : Kind) (f : IF) (g : Bool → D → Env → Option Env) (b : SF) : SF := fun E => match f E with
  | some (ds, E') => forL (g (newAll E' k.S)) b ds (freeze E' k.S)
  | none => none
theorem Rel.lock {H1 : Hp} {S : List Nat} (R : Rel G C H σ E Fs) (hn : ∀ a, H1 a = none → C.H0 a = none ∧ ¬ C.T a) (tr : ∀ a ∈ F, ∃ o, H a = some o ∧ MutO o = true) (vw : Vw H1 E Fs S F) : Rel G { C with T := fun a => C.T a ∨ a ∈ F, HT := H } H σ (VL.freeze E S) Fs := by
  have R1 := R.freeze (S := S)
  refine ⟨R1.len, R1.rd, fun i m d e hw => ?_, R1.nw, R1.fr, Chg.refl _ _, fun q hq => ?_, R1.tb⟩
  · obtain ⟨h1, h2, h3⟩ := R1.nd i m d e hw
    refine ⟨h1, fun a ha hT => ?_, h3⟩
    rcases hT with hT | hT
    · exact h2 a ha hT
    · obtain ⟨m0, e0, h4⟩ := freeze_get.2 m d e
      obtain ⟨h5, h6⟩ := h4 hw
      subst h5
      rcases vw a hT with ⟨s, hs, ⟨m3, d3, e3⟩, h7⟩ | h7
      · exact (R.nd i _ d e0 hw).2.2 s m3 d3 (fun z => h6 (by rw [← z]; exact hs)) e3 a ha h7
      · exact h7.2 i ⟨_, _, e0⟩ ha
  · rcases hq with hq | hq
    · obtain ⟨o, e, hm⟩ := R.pt q hq
      exact ⟨o, R.pr.keep e hm (fun z => z hq), hm⟩
    · exact tr q hq
theorem Rel.unlock {Hb : Hp} {E0 : Env} {σ0 : L2.St} {Fs0 : Nat → List Addr} {T' : Addr → Prop} (R0 : Rel G C Hb σ0 E0 Fs0) (ht : ∀ a, C.T a → T' a) (R : Rel G { C with T := T', HT := Hb } H σ E Fs) : Rel G C H σ E Fs :=
  ⟨R.len, R.rd, fun i m d e hw => let ⟨h1, h2, h3⟩ := R.nd i m d e hw; ⟨h1, fun a ha hT => h2 a ha (ht a hT), h3⟩, R.nw, R.fr, (R0.pr.trans R.pr).mono fun q o e h => h.elim id fun z hT => z (ht q hT), R0.pt, R.tb⟩
end
end
end VL
set_option maxHeartbeats 4000000
namespace VL
noncomputable section
open PySem PySem.Spec PyProof.Rows L2
open GxR (TabB TabG Tabbed)
section
variable {G : Gb} {X : Cx} {ro : Bool}
theorem pg_ex {tg : Expr} {W : List Nat} {g : Bool → D → Env → Option Env} (hg : ∀ b, VG G X tg (.pr b) W (g b)) : PG X tg (fun v σ H Q => ∃ b, tVG G (.pr b) W (g b) v σ H Q) :=
  ⟨fun pins s σ H v u Q I r ⟨b, q⟩ => (hg b).run pins s σ H v u Q I r q⟩
theorem new_of {C : Ctx} {H H1 : Hp} {σ : L2.St} {E : Env} {Fs : Nat → List Addr} {S : List Nat} {F : List Addr} (R : Rel G C H σ E Fs) (hn : ∀ a, H1 a = none → C.H0 a = none ∧ ¬ C.T a) (vw : Vw H1 E Fs S F) (h : newAll E S = true) : ∀ a ∈ F, C.H0 a = none := fun a ha => by
  rcases vw a ha with ⟨s, hs, ⟨m, d, e⟩, h3⟩ | h3
  · have z := List.all_eq_true.mp h s hs
    rw [e] at z
    exact (R.nw s m d e).1 z a h3
  · exact (hn a h3.1).1
theorem vs_for {tg iter : Expr} {body : List Stmt} {M W : List Nat} {k : Kind} {f : IF} {g : Bool → D → Env → Option Env} {b : SF} {pos : Pos} (x : XOk G X) (hp : PassesOwn (model X.prog X.w) X.A X.env X.xe) (hi : VI G X tg iter M k f) (hg : ∀ b, VG G X tg (.pr b) W (g b)) (hb : VSs G X ro body b)
    (hs : ∀ x, foldedSetIterable iter X.env x = pure x := by intro _; rfl) : VS G X ro (.For tg iter body [] pos) (sFor k f g b) := PS.imp (ps_for hp x.calm hi (pg_ex hg) hb hs) fun N σ H ⟨C, E, Fs, R, o, e, q⟩ => by
  unfold sFor at e
  split at e
  · rename_i ds E' e1
    refine ⟨C, E, Fs, R, ds, E', e1, fun J Hb Fs' F R' s' it tr vw => ?_⟩
    have R1 := R'.lock R.hn tr vw
    have nwF := new_of R' R.hn vw
    generalize newAll E' k.S = bb at e nwF
    have un : ∀ {σ2 H2 E2 Fs2}, Rel G { C with T := fun a => C.T a ∨ a ∈ F, HT := Hb } H2 σ2 E2 Fs2 → Rel G C H2 σ2 E2 Fs2 := fun r => R'.unlock (fun a ha => .inl ha) r
    refine ⟨fun i m σ2 H2 => m = ds.length - i ∧ i ≤ ds.length ∧ ∃ E2 Fs2, Rel G { C with T := fun a => C.T a ∨ a ∈ F, HT := Hb } H2 σ2 E2 Fs2 ∧ forL (g bb) b (ds.drop i) E2 = some o, ⟨ds.length, by simp, Nat.zero_le _, _, _, R1, e⟩, ?_⟩
    rintro i m σ2 H2 ⟨rfl, hi, E2, Fs2, R2, e2⟩
    have c2 : Chg (fun a => a ∉ F) Hb H2 := R2.pr.mono fun q o _ h hF => h (.inr hF)
    by_cases hlt : i < ds.length
    · refine .inr ⟨it.go H2 i c2 hlt, fun σ3 H3 => ∃ E3 Fs3, Rel G { C with T := fun a => C.T a ∨ a ∈ F, HT := Hb } H3 σ3 E3 Fs3 ∧ forL (g bb) b (ds.drop (i + 1)) E3 = some o, fun σ3 H3 h3 => ⟨ds.length - (i + 1), by omega, rfl, hlt, h3⟩, fun y H3 hy => ?_⟩
      obtain ⟨c3, d, A, ed, rd, hA⟩ := it.yl H2 i y H3 c2 hlt hy
      have ed' : ds.drop i = d :: ds.drop (i + 1) := by
        rw [List.drop_eq_getElem_cons hlt]
        rw [List.getElem?_eq_getElem hlt] at ed
        cases ed
        rfl
      rw [ed'] at e2
      unfold forL at e2
      have R3 := R2.chg c3
      cases e3 : g bb d E2 with
      | none => rw [e3] at e2; cases e2
      | some E3 =>
        rw [e3] at e2
        dsimp only at e2
        refine ⟨bb, _, E2, Fs2, H3, A, d, R3, R3.hn, rd, ⟨fun a ha => .inr (hA a ha), fun z a ha => nwF z a (hA a ha)⟩, E3, e3, fun σ4 Fs4 R4 _ => ?_⟩
        cases e4 : b E3 with
        | none => rw [e4] at e2; cases e2
        | some o1 =>
          rw [e4] at e2
          refine ⟨_, E3, Fs4, R4, o1, e4, ?_⟩
          cases o1 with
          | nx E5 => exact fun σ5 H5 Fs5 R5 => ⟨E5, Fs5, R5, e2⟩
          | ct E5 => exact fun σ5 H5 Fs5 R5 => ⟨E5, Fs5, R5, e2⟩
          | bk E5 =>
            cases e2
            exact fun σ5 H5 Fs5 R5 => q σ5 H5 Fs5 (un R5)
          | rt r E5 =>
            cases e2
            exact fun v σ5 H5 Fs5 F5 R5 r5 k5 => q v σ5 H5 Fs5 F5 (un R5) r5 k5
    · have ei : ds.drop i = [] := List.drop_eq_nil_of_le (by omega)
      rw [ei] at e2
      cases e2
      exact .inl ⟨it.st H2 i c2 (by omega), q σ2 H2 Fs2 (un R2)⟩
  · cases e
/-! ### while -/
def whileN (t : TF) (b : SF) : Nat → Env → Option Out
  | 0, _ => none
  | n + 1, E => match t E with
    | some (false, E1) => some (.nx E1)
    | some (true, E1) => (match b E1 with
      | some (.nx E2) => whileN t b n E2
      | some (.ct E2) => whileN t b n E2
      | some (.bk E2) => some (.nx E2)
      | some (.rt r E2) => some (.rt r E2)
      | none => none)
    | none => none
theorem whileN_mono {t : TF} {b : SF} : ∀ {n m : Nat} {E : Env} {o : Out}, whileN t b n E = some o → n ≤ m → whileN t b m E = some o
  | 0, _, _, _, h, _ => by cases h
  | n + 1, 0, _, _, _, h => absurd h (by omega)
  | n + 1, m + 1, E, o, h, hm => by
    unfold whileN at h ⊢
    split at h
    · exact h
    · split at h
      · exact whileN_mono h (by omega)
      · exact whileN_mono h (by omega)
      · exact h
      · exact h
      · cases h
    · cases h
open Classical in
noncomputable def sWhile (t : TF) (b : SF) : SF := fun E => if h : ∃ o n, whileN t b n E = some o then some (Classical.choose h) else none
theorem sWhile_eq {t : TF} {b : SF} {E : Env} {n : Nat} {o : Out} (h : whileN t b n E = some o) : sWhile t b E = some o := by
  have hx : ∃ o n, whileN t b n E = some o := ⟨o, n, h⟩
  unfold sWhile
  rw [dif_pos hx]
  obtain ⟨m, hm⟩ := Classical.choose_spec hx
  have h1 := whileN_mono h (Nat.le_max_left n m)
  have h2 := whileN_mono hm (Nat.le_max_right n m)
  rw [h1] at h2
  exact h2.symm
theorem sWhile_some {t : TF} {b : SF} {E : Env} {o : Out} (h : sWhile t b E = some o) : ∃ n, whileN t b n E = some o := by
  unfold sWhile at h
  split at h
  · rename_i hx
    obtain ⟨m, hm⟩ := Classical.choose_spec hx
    rw [Option.some.inj h] at hm
    exact ⟨m, hm⟩
  · cases h
theorem vs_while {c : Expr} {body : List Stmt} {M : List Nat} {t : TF} {b : SF} {pos : Pos} (hp : PassesOwn (model X.prog X.w) X.A X.env X.xe) (hc : VT G X c M t) (hb : VSs G X ro body b) : VS G X ro (.While c body [] pos) (sWhile t b) := PS.imp (ps_while hp hc hb) fun N σ H ⟨C, E, Fs, R, o, e, q⟩ => by
  obtain ⟨n, hn⟩ := sWhile_some e
  refine ⟨fun m σ2 H2 => ∃ E2 Fs2, Rel G C H2 σ2 E2 Fs2 ∧ whileN t b m E2 = some o, ⟨n, E, Fs, R, hn⟩, ?_⟩
  rintro m σ2 H2 ⟨E2, Fs2, R2, e2⟩
  cases m with
  | zero => cases e2
  | succ m =>
    unfold whileN at e2
    split at e2
    · rename_i E3 e3
      cases e2
      exact ⟨C, E2, Fs2, R2, false, E3, e3, fun H3 Fs3 R3 _ => ite_ff (q σ2 H3 Fs3 R3)⟩
    · rename_i E3 e3
      refine ⟨C, E2, Fs2, R2, true, E3, e3, fun H3 Fs3 R3 _ => ite_tt ⟨fun σ4 H4 => ∃ E4 Fs4, Rel G C H4 σ4 E4 Fs4 ∧ whileN t b m E4 = some o, fun σ4 H4 h4 => ⟨m, Nat.lt_succ_self m, h4⟩, ?_⟩⟩
      cases e4 : b E3 with
      | none => rw [e4] at e2; cases e2
      | some o1 =>
        rw [e4] at e2
        refine ⟨C, E3, Fs3, R3, o1, e4, ?_⟩
        cases o1 with
        | nx E5 => exact fun σ5 H5 Fs5 R5 => ⟨E5, Fs5, R5, e2⟩
        | ct E5 => exact fun σ5 H5 Fs5 R5 => ⟨E5, Fs5, R5, e2⟩
        | bk E5 =>
          cases e2
          exact fun σ5 H5 Fs5 R5 => q σ5 H5 Fs5 R5
        | rt r E5 =>
          cases e2
          exact fun v σ5 H5 Fs5 F5 R5 r5 k5 => q v σ5 H5 Fs5 F5 R5 r5 k5
    · cases e2
end
end
end VL
set_option maxHeartbeats 4000000
namespace VL
noncomputable section
open PySem PySem.Spec PyProof.Rows L2
open GxR (TabB TabG Tabbed)
section
variable {G : Gb} {X : Cx} {tg e : Expr} {M M' : List Nat} {k k' : Kind} {f g : EF}
theorem PI.or {t t' : TI} (h : PI X tg e t) (h' : PI X tg e t') : PI X tg e (fun σ H R => t σ H R ∨ t' σ H R) := ⟨fun pins s σ H R I q => q.elim (h.run pins s σ H R I) (h'.run pins s σ H R I)⟩
theorem PE.or {t t' : TE} (h : PE X e t) (h' : PE X e t') : PE X e (fun σ H Q => t σ H Q ∨ t' σ H Q) := ⟨fun pins s σ H R I q => q.elim (h.run pins s σ H R I) (h'.run pins s σ H R I)⟩
/-- what stands at a through the walk: a list, a tuple, of ds -/
theorem seq_stays {H H' : Hp} {d : D} {ds : List D} {v : V} {F : List Addr} (e : d.items = some ds) (r : Rds G H d v F) : ∃ a, v = .ref a ∧
    ((∀ es, d ≠ .tup es) → ∀ H', Chg (fun a => a ∉ F) H H' → ∃ us A, SqL G.K H' a us ∧ RdsL G H' ds us A ∧ A.Sublist F) ∧
    ((∃ es, d = .tup es) → ∀ H', Chg (fun a => a ∉ F) H H' → ∃ us A, SqT G.K H' a us ∧ RdsL G H' ds us A ∧ A.Sublist F) := by
  cases d <;> unfold D.items at e <;> first | cases e | skip
  · obtain ⟨a, us, rfl, h3, h4⟩ := rds_tup.mp r
    exact ⟨a, rfl, fun z => absurd rfl (z _), fun _ H' c => ⟨us, F, SqT.chg c h3, RdsL.chg c _ _ _ (fun a ha z => z ha) h4, List.Sublist.refl _⟩⟩
  · obtain ⟨a, us, A, rfl, h3, h4, rfl⟩ := rds_lst.mp r
    refine ⟨a, rfl, fun _ H' c => ⟨us, A, SqL.of (c.keep h3 rfl fun z => z List.mem_cons_self), RdsL.chg c _ _ _ (fun a ha z => z (List.mem_cons_of_mem _ ha)) h4, List.sublist_cons_self ..⟩, fun ⟨es, z⟩ => by cases z⟩
  · obtain ⟨a, rfl, h3, rfl⟩ := rds_scr.mp r
    exact ⟨a, rfl, fun _ H' c => ⟨_, [], (ScrAt.chg c h3).sql, rdsL_mk_ints _, List.Sublist.refl _⟩, fun ⟨es, z⟩ => by cases z⟩
theorem itOk_list {Hb : Hp} {a : Addr} {ds : List D} {F : List Addr} (h : ∀ H', Chg (fun a => a ∉ F) Hb H' → ∃ us A, SqL G.K H' a us ∧ RdsL G H' ds us A ∧ A.Sublist F) : ItOk G (Itl G.K a) ds F Hb where
  go := fun H i c hi => by
    obtain ⟨us, A, h1, h2, h3⟩ := h H c
    have hl := rdsL_len h2
    exact ⟨us, us[i], h1, List.getElem?_eq_getElem (by omega)⟩
  yl := fun H i x H' c hi ⟨e, hy⟩ => by
    subst e
    obtain ⟨us, A, h1, h2, h3⟩ := h H' c
    obtain ⟨y, B, h4, h5, h6⟩ := rdsL_get h2 (List.getElem?_eq_getElem hi)
    have e := hy us h1
    rw [h4] at e
    cases e
    exact ⟨Chg.refl _ _, _, B, List.getElem?_eq_getElem hi, h5, fun z hz => h3.subset (h6.subset hz)⟩
  st := fun H i c hi => by
    obtain ⟨us, A, h1, h2, h3⟩ := h H c
    exact ⟨us, h1, by rw [rdsL_len h2]; exact hi⟩
theorem itOk_tup {Hb : Hp} {a : Addr} {ds : List D} {F : List Addr} (h : ∀ H', Chg (fun a => a ∉ F) Hb H' → ∃ us A, SqT G.K H' a us ∧ RdsL G H' ds us A ∧ A.Sublist F) : ItOk G (Itt G.K a) ds F Hb where
  go := fun H i c hi => by
    obtain ⟨us, A, h1, h2, h3⟩ := h H c
    have hl := rdsL_len h2
    exact ⟨us, us[i], h1, List.getElem?_eq_getElem (by omega)⟩
  yl := fun H i x H' c hi ⟨e, hy⟩ => by
    subst e
    obtain ⟨us, A, h1, h2, h3⟩ := h H' c
    obtain ⟨y, B, h4, h5, h6⟩ := rdsL_get h2 (List.getElem?_eq_getElem hi)
    have e := hy us h1
    rw [h4] at e
    cases e
    exact ⟨Chg.refl _ _, _, B, List.getElem?_eq_getElem hi, h5, fun z hz => h3.subset (h6.subset hz)⟩
  st := fun H i c hi => by
    obtain ⟨us, A, h1, h2, h3⟩ := h H c
    exact ⟨us, h1, by rw [rdsL_len h2]; exact hi⟩
def iSeq (f : EF) : IF := fun E => match f E with
  | some (d, E') => (match d.items with
    | some ds => some (ds, E')
    | none => none)
  | none => none
theorem vi_seq (x : XOk G X) (he : VE G X e M k f) : VI G X tg e M k (iSeq f) := PI.imp (PI.or (pi_list he) (pi_tup he)) fun σ H R ⟨C, E, Fs, Rl, ds, E', e, q⟩ => by
  unfold iSeq at e
  split at e
  · rename_i d E1 e1
    split at e
    · rename_i ds' e2
      cases e
      rw [x.K]
      by_cases ht : ∃ es, d = .tup es
      · refine .inr ⟨C, E, Fs, Rl, d, E', e1, fun v H1 Fs1 F R1 s1 r1 k1 => ?_⟩
        obtain ⟨a, rfl, _, h2⟩ := seq_stays (H' := H1) e2 r1
        have h2 := h2 ht
        obtain ⟨us, A, h3, _⟩ := h2 H1 (Chg.refl _ _)
        exact ⟨a, rfl, ⟨us, h3⟩, q _ _ _ F R1 s1 (itOk_tup h2) (fun a ha => Rds.trk _ _ _ r1 a ha) k1.vw⟩
      · refine .inl ⟨C, E, Fs, Rl, d, E', e1, fun v H1 Fs1 F R1 s1 r1 k1 => ?_⟩
        obtain ⟨a, rfl, h2, _⟩ := seq_stays (H' := H1) e2 r1
        have h2 := h2 fun es z => ht ⟨es, z⟩
        obtain ⟨us, A, h3, _⟩ := h2 H1 (Chg.refl _ _)
        exact ⟨a, rfl, ⟨us, h3⟩, q _ _ _ F R1 s1 (itOk_list h2) (fun a ha => Rds.trk _ _ _ r1 a ha) k1.vw⟩
    · cases e
  · cases e
/-- range -/
theorem itOk_range {Hb : Hp} (lo : Int) (n : Nat) : ItOk G (Itr lo n) ((List.range n).map fun (i : Nat) => D.int (lo + (i : Int))) [] Hb where
  go := fun H i c hi => show i < n by simpa using hi
  yl := fun H i x H' c hi ⟨e, hy⟩ => by
    subst e hy
    have hn : i < n := by simpa using hi
    refine ⟨Chg.refl _ _, D.int (lo + (i : Int)), [], ?_, hInt _ _ _, fun a ha => by cases ha⟩
    rw [List.getElem?_map, List.getElem?_range hn]
    rfl
  st := fun H i c hi => show n ≤ i by simpa using hi
def iRg (r : RF) : IF := fun E => match r E with
  | some (a, b, E') => if rgOk a b then some ((rgI a b).map .int, E') else none
  | none => none
theorem rgI_map (a b : Int) : (rgI a b).map D.int = (List.range (b - a).toNat).map fun (i : Nat) => D.int (a + (i : Int)) := by
  unfold rgI
  rw [List.map_map]
  rfl
theorem rgOk_of {a b : Int} (h : rgOk a b = true) : -(2 ^ 62) ≤ a ∧ a < 2 ^ 62 ∧ -(2 ^ 62) ≤ b ∧ b < 2 ^ 62 := by
  obtain ⟨h1, h2, h3, h4, _⟩ := sl_iff.mp h
  exact ⟨h1, h2, h3, h4⟩
theorem vi_range1 {a : Expr} {p pos : Pos} (hg : Gl X "range") (hm : X.mg "range" = none) (ha : VE G X a M k f) (hs : starEach [a] X.env = [(false, eval a X.env)] := by rfl) : VI G X tg (.Call (.Name "range" p) [a] [] pos) M .own (iRg (rg1 f)) :=
  PI.imp (pi_range1 hg hm (vl_cons ha vl_nil (safe_nil k) (by rw [hs]; rfl)) hs) fun σ H R ⟨C, E, Fs, Rl, ds, E', e, q⟩ => by
    unfold iRg at e
    split at e
    · rename_i a' b' E1 e1
      split at e
      · rename_i hr
        cases e
        unfold rg1 at e1
        split at e1
        · rename_i n E2 e2
          cases e1
          refine ⟨C, E, Fs, Rl, [.int b'], E', by unfold lCons lNil; rw [e2], fun vs H1 Fs1 FF R1 s1 a1 => ?_⟩
          obtain ⟨y, rfl, h1⟩ := rdsL1 a1.rds
          obtain ⟨rfl, _⟩ := rds_int.mp h1
          obtain ⟨h2, h3, h4, h5⟩ := rgOk_of hr
          refine ⟨b', rfl, h4, h5, q _ _ _ [] R1 (s1.mono fun i hi => by simpa using hi) ?_ (fun a ha => by cases ha) (fun a ha => by cases ha)⟩
          rw [rgI_map, Int.sub_zero]
          exact itOk_range 0 b'.toNat
        · cases e1
      · cases e
    · cases e
theorem vi_range2 {a b : Expr} {p pos : Pos} (hg : Gl X "range") (hm : X.mg "range" = none) (ha : VE G X a M k f) (hb : VE G X b M' k' g) (sf : k.safe M' = true := by rfl) (hs : starEach [a, b] X.env = [(false, eval a X.env), (false, eval b X.env)] := by rfl) (hs2 : starEach [b] X.env = [(false, eval b X.env)] := by rfl) :
    VI G X tg (.Call (.Name "range" p) [a, b] [] pos) (M ++ M') .own (iRg (rg2 f g)) :=
  PI.imp (pi_range2 hg hm (vl_cons ha (vl_cons hb vl_nil (safe_nil k') (by rw [hs2]; rfl)) (by rw [List.append_nil]; exact sf) (by rw [hs, hs2])) hs hs2) fun σ H R ⟨C, E, Fs, Rl, ds, E', e, q⟩ => by
    unfold iRg at e
    split at e
    · rename_i a' b' E1 e1
      split at e
      · rename_i hr
        cases e
        unfold rg2 at e1
        split at e1
        · rename_i i j E2 e2
          cases e1
          refine ⟨C, E, Fs, Rl, _, E', e2, fun vs H1 Fs1 FF R1 s1 a1 => ?_⟩
          obtain ⟨y, z, A, B, rfl, _, h1, h2⟩ := rdsL2 a1.rds
          obtain ⟨rfl, _⟩ := rds_int.mp h1
          obtain ⟨rfl, _⟩ := rds_int.mp h2
          refine ⟨a', b', rfl, rgOk_of hr, q _ _ _ [] R1 (s1.mono fun i hi => by simpa using hi) ?_ (fun a ha => by cases ha) (fun a ha => by cases ha)⟩
          rw [rgI_map]
          exact itOk_range a' (b' - a').toNat
        · cases e1
      · cases e
    · cases e
/-- enumerate -/
def enumD (i : Nat) : List D → List D
  | [] => []
  | d :: ds => .tup [.int (i : Int), d] :: enumD (i + 1) ds
theorem enumD_len : ∀ {ds : List D} {i : Nat}, (enumD i ds).length = ds.length
  | [], _ => rfl
  | d :: ds, i => by
    rw [enumD, List.length_cons, List.length_cons, enumD_len]
theorem enumD_get : ∀ {ds : List D} {i j : Nat} {d : D}, ds[j]? = some d → (enumD i ds)[j]? = some (.tup [.int ((i + j : Nat) : Int), d])
  | [], _, _, _, e => by simp at e
  | d' :: ds, i, 0, d, e => by
    simp at e
    subst e
    rfl
  | d' :: ds, i, j + 1, d, e => by
    rw [enumD, List.getElem?_cons_succ, enumD_get (by simpa using e)]
    rw [show i + 1 + j = i + (j + 1) by omega]
theorem itOk_pairs {J : It} {Hb : Hp} {ds es : List D} {F : List Addr} (hl : es.length = ds.length) (go : ∀ H i, Chg (fun a => a ∉ F) Hb H → i < ds.length → J.go i H)
    (yl : ∀ H i v H', Chg (fun a => a ∉ F) Hb H → i < ds.length → J.yld i H v H' → ∃ T xs d A, v = .ref T ∧ H T = none ∧ H' = upd H T (.tup xs) ∧ es[i]? = some (.tup d) ∧ RdsL G H d xs A ∧ ∀ a ∈ A, a ∈ F)
    (st : ∀ H i, Chg (fun a => a ∉ F) Hb H → ds.length ≤ i → J.stop i H) : ItOk G J es F Hb where
  go := fun H i c hi => go H i c (by omega)
  yl := fun H i v H' c hi h => by
    obtain ⟨T, xs, d, A, rfl, hT, rfl, he, hr, hA⟩ := yl H i v H' c (by omega) h
    have c' : Chg No H (upd H T (.tup xs)) := Chg.new hT
    exact ⟨c', _, A, he, rds_tup.mpr ⟨T, xs, rfl, SqT.of upd_same, RdsL.chg c' _ _ _ (fun _ _ z => z) hr⟩, hA⟩
  st := fun H i c hi => st H i c (by omega)
def iEnm (f : EF) : IF := fun E => match f E with
  | some (d, E') => (match d.items with
    | some ds => some (enumD 0 ds, E')
    | none => none)
  | none => none
theorem vi_enum (x : XOk G X) {p pos tpos : Pos} {elts : List Expr} {kk : Nat} (hg : Gl X "enumerate") (hm : X.mg "enumerate" = none) (he : VE G X e M k f) (hs : starEach [e] X.env = [(false, eval e X.env)] := by rfl) : VI G X (.Tuple elts kk tpos) (.Call (.Name "enumerate" p) [e] [] pos) M k (iEnm f) :=
  PI.imp (PI.or (pi_enum hg hm (vl_cons he vl_nil (safe_nil k) (by rw [hs]; rfl)) hs) (_root_.TA.pi_enumT hg hm (vl_cons he vl_nil (safe_nil k) (by rw [hs]; rfl)) hs)) fun σ H R ⟨C, E, Fs, Rl, ds, E', e, q⟩ => by
    unfold iEnm at e
    split at e
    · rename_i d E1 e1
      split at e
      · rename_i ds' e2
        cases e
        rw [x.K]
        by_cases ht : ∃ es, d = .tup es
        · refine .inr ⟨C, E, Fs, Rl, [d], E', by unfold lCons lNil; rw [e1], fun vs H1 Fs1 FF R1 s1 a1 => ?_⟩
          obtain ⟨d1, ds1, v, vs1, F, FF', hd, rfl, rfl, r1, k1, _, hr⟩ := a1
          cases hd
          obtain ⟨_, rfl, rfl⟩ := hr
          obtain ⟨a, rfl, _, h2⟩ := seq_stays (H' := H1) e2 r1
          have h2 := h2 ht
          obtain ⟨us, A, h3, _⟩ := h2 H1 (Chg.refl _ _)
          refine ⟨a, us, rfl, h3, q _ _ _ F R1 (s1.mono fun i hi => by simpa using hi) (itOk_pairs enumD_len (fun H i c hi => ?_) (fun H i v H' c hi hy => ?_) fun H i c hi => ?_) (fun a ha => Rds.trk _ _ _ r1 a ha) k1.vw⟩
          · obtain ⟨us, A, h4, h5, _⟩ := h2 H c
            have hl := rdsL_len h5
            exact ⟨us, us[i], h4, List.getElem?_eq_getElem (by omega)⟩
          · obtain ⟨T, y, rfl, hT, rfl, hx⟩ := hy
            obtain ⟨us, A, h4, h5, h6⟩ := h2 H c
            obtain ⟨z, B, h7, h8, h9⟩ := rdsL_get h5 (List.getElem?_eq_getElem hi)
            have e3 := hx us h4
            rw [h7] at e3
            cases e3
            refine ⟨T, _, _, B, rfl, hT, rfl, by rw [enumD_get (List.getElem?_eq_getElem hi), Nat.zero_add], ?_, fun a ha => h6.subset (h9.subset ha)⟩
            exact rdsL_cons.mpr ⟨_, _, [], B, rfl, rfl, hInt _ _ _, rdsL_cons.mpr ⟨_, _, B, [], rfl, by simp, h8, rdsL_nil.mpr ⟨rfl, rfl⟩⟩⟩
          · obtain ⟨us, A, h4, h5, _⟩ := h2 H c
            exact ⟨us, h4, by rw [rdsL_len h5]; exact hi⟩
        · refine .inl ⟨C, E, Fs, Rl, [d], E', by unfold lCons lNil; rw [e1], fun vs H1 Fs1 FF R1 s1 a1 => ?_⟩
          obtain ⟨d1, ds1, v, vs1, F, FF', hd, rfl, rfl, r1, k1, _, hr⟩ := a1
          cases hd
          obtain ⟨_, rfl, rfl⟩ := hr
          obtain ⟨a, rfl, h2, _⟩ := seq_stays (H' := H1) e2 r1
          have h2 := h2 fun es z => ht ⟨es, z⟩
          obtain ⟨us, A, h3, _⟩ := h2 H1 (Chg.refl _ _)
          refine ⟨a, us, rfl, h3, q _ _ _ F R1 (s1.mono fun i hi => by simpa using hi) (itOk_pairs enumD_len (fun H i c hi => ?_) (fun H i v H' c hi hy => ?_) fun H i c hi => ?_) (fun a ha => Rds.trk _ _ _ r1 a ha) k1.vw⟩
          · obtain ⟨us, A, h4, h5, _⟩ := h2 H c
            have hl := rdsL_len h5
            exact ⟨us, us[i], h4, List.getElem?_eq_getElem (by omega)⟩
          · obtain ⟨T, y, rfl, hT, rfl, hx⟩ := hy
            obtain ⟨us, A, h4, h5, h6⟩ := h2 H c
            obtain ⟨z, B, h7, h8, h9⟩ := rdsL_get h5 (List.getElem?_eq_getElem hi)
            have e3 := hx us h4
            rw [h7] at e3
            cases e3
            refine ⟨T, _, _, B, rfl, hT, rfl, by rw [enumD_get (List.getElem?_eq_getElem hi), Nat.zero_add], ?_, fun a ha => h6.subset (h9.subset ha)⟩
            exact rdsL_cons.mpr ⟨_, _, [], B, rfl, rfl, hInt _ _ _, rdsL_cons.mpr ⟨_, _, B, [], rfl, by simp, h8, rdsL_nil.mpr ⟨rfl, rfl⟩⟩⟩
          · obtain ⟨us, A, h4, h5, _⟩ := h2 H c
            exact ⟨us, h4, by rw [rdsL_len h5]; exact hi⟩
      · cases e
    · cases e
end
end
end VL
set_option maxHeartbeats 4000000
namespace VL
noncomputable section
open PySem PySem.Spec PyProof.Rows L2
open GxR (TabB TabG Tabbed)
/-! ### defs -/
/-- what a def does: of its arguments' data what it gives, and those that are written (J), as they are then -/
abbrev FD := List D → Option (D × List D)
structure ArgIn (G : Gb) (H : Hp) (J : List Nat) (ds : List D) (vs : List V) (FA : Nat → List Addr) : Prop where
  len : vs.length = ds.length
  rd : ∀ j d, ds[j]? = some d → ∃ v, vs[j]? = some v ∧ Rds G H d v (FA j)
  io : ∀ j ∈ J, j < ds.length → (FA j).Nodup ∧ ∀ i, i ≠ j → i < ds.length → ∀ a ∈ FA j, a ∉ FA i
structure ArgOut (G : Gb) (H H' : Hp) (J : List Nat) (ds' : List D) (vs : List V) (FA FA' : Nat → List Addr) (A : List Addr) : Prop where
  rd : ∀ (x : Nat) (j : Nat), J[x]? = some j → ∃ d v, ds'[x]? = some d ∧ vs[j]? = some v ∧ Rds G H' d v (FA' j) ∧ (FA' j).Nodup ∧ (∀ a ∈ FA' j, a ∈ FA j ∨ H a = none) ∧ (∀ a ∈ A, a ∉ FA' j) ∧ ∀ i ∈ J, i ≠ j → ∀ a ∈ FA' j, a ∉ FA' i
def spV (G : Gb) (J : List Nat) (ro : Bool) (n : Nat) (F : FD) : Sp := fun vs H Q _ => ∃ ds FA, vs.length = n ∧ ArgIn G H J ds vs FA ∧ (∀ T ∈ G.tabs, TabG H T) ∧ ∃ d ds', F ds = some (d, ds') ∧
  ∀ v H' A FA', Rds G H' d v A → (ro = true → A.Nodup) → (∀ a ∈ A, H a = none) → ArgOut G H H' J ds' vs FA FA' A → Chg (fun q => ∃ j ∈ J, q ∈ FA j) H H' → Q v H'
def startE (N : Nat) (J : List Nat) (ds : List D) : Env := (ds.mapIdx fun j d => some (if J.contains j then Mode.io else Mode.arg, d)) ++ List.replicate (N - ds.length) none
def ioGet (E : Env) (j : Nat) : Option D := match E[j]? with
  | some (some (.io, d)) => some d
  | _ => none
def ioOut (E : Env) : List Nat → Option (List D)
  | [] => some []
  | j :: J => match ioGet E j, ioOut E J with
    | some d, some ds => some (d :: ds)
    | _, _ => none
def callD (S : SF) (N : Nat) (J : List Nat) : FD := fun ds => match S (startE N J ds) with
  | some (.rt d E) => (match ioOut E J with
    | some ds' => some (d, ds')
    | none => none)
  | some (.nx E) => (match ioOut E J with
    | some ds' => some (.non, ds')
    | none => none)
  | _ => none
theorem ioGet_some {E : Env} {j : Nat} {d : D} (h : ioGet E j = some d) : E[j]? = some (some (.io, d)) := by
  unfold ioGet at h
  split at h
  · rename_i d' e
    cases h
    exact e
  · cases h
theorem ioOut_get {E : Env} : ∀ {J : List Nat} {ds : List D} {x j : Nat}, ioOut E J = some ds → J[x]? = some j → ∃ d, ds[x]? = some d ∧ E[j]? = some (some (.io, d))
  | [], _, x, j, _, e => by simp at e
  | j' :: J, ds, x, j, h, e => by
    unfold ioOut at h
    split at h
    · rename_i d ds' h1 h2
      cases h
      cases x with
      | zero =>
        simp at e
        subst e
        exact ⟨d, rfl, ioGet_some h1⟩
      | succ x =>
        obtain ⟨d', h3, h4⟩ := ioOut_get h2 (show J[x]? = some j by simpa using e)
        exact ⟨d', by simpa using h3, h4⟩
    · cases h
theorem startE_len {N : Nat} {J : List Nat} {ds : List D} (h : ds.length ≤ N) : (startE N J ds).length = N := by
  unfold startE
  rw [List.length_append, List.length_mapIdx, List.length_replicate]
  omega
theorem startE_get {N : Nat} {J : List Nat} {ds : List D} {i : Nat} {m : Mode} {d : D} (e : (startE N J ds)[i]? = some (some (m, d))) : ds[i]? = some d ∧ ((m = .io ∧ i ∈ J) ∨ m = .arg) := by
  unfold startE at e
  by_cases hi : i < ds.length
  · rw [List.getElem?_append_left (by rw [List.length_mapIdx]; exact hi), List.getElem?_mapIdx, List.getElem?_eq_getElem hi] at e
    simp only [Option.map_some, Option.some.injEq, Prod.mk.injEq] at e
    obtain ⟨e1, e2⟩ := e
    refine ⟨by rw [← e2]; exact List.getElem?_eq_getElem hi, ?_⟩
    by_cases hJ : J.contains i = true
    · rw [if_pos hJ] at e1
      exact .inl ⟨e1.symm, by simpa using hJ⟩
    · rw [if_neg hJ] at e1
      exact .inr e1.symm
  · rw [List.getElem?_append_right (by rw [List.length_mapIdx]; omega), List.getElem?_replicate] at e
    split at e
    · cases e
    · cases e
section
variable {P : Program} {w : World} {G : Gb} {mg : Str → Option Value} {b0 : Heap}
theorem post_call {J : List Nat} {ro : Bool} {n : Nat} {S : SF} {N : List Str} {vs : List V} {H : Hp} {Q : VK} {E : XK} (hn : n ≤ N.length) (hJ : J.all (fun j => decide (j < n)) = true) (h : spV G J ro n (callD S N.length J) vs H Q E) :
    tVS G ro S { nx := fun _ H' => Q .non H', rt := Q } (start N vs) H := by
  obtain ⟨ds, FA, hl, ai, tb, d, ds', eF, q⟩ := h
  have hds : ds.length = n := by rw [← ai.len]; exact hl
  have jn : ∀ j ∈ J, j < ds.length := fun j hj => by
    have := of_decide_eq_true (List.all_eq_true.mp hJ j hj)
    omega
  let C : Ctx := ⟨H, fun i a => i ∈ J ∧ a ∈ FA i, fun _ => False, H, fun j => (vs[j]?).getD .non⟩
  have R : Rel G C H (start N vs) (startE N.length J ds) FA := by
    refine ⟨?_, fun i m d' e => ?_, fun i m d' e hw => ?_, fun i m d' e => ?_, Chg.refl _ _, Chg.refl _ _, fun q z => z.elim, tb⟩
    · rw [startE_len (by omega)]
      unfold L2.start
      rw [List.length_append, List.length_map, List.length_replicate, hl]
      omega
    · obtain ⟨h1, h2⟩ := startE_get e
      obtain ⟨v, h3, h4⟩ := ai.rd i d' h1
      refine ⟨v, ?_, h4, fun _ => ?_⟩
      · unfold L2.start
        rw [List.getElem?_append_left (by rw [List.length_map]; exact (List.getElem?_eq_some_iff.mp h3).1), List.getElem?_map, h3]
        rfl
      · show v = (vs[i]?).getD .non
        rw [h3]
        rfl
    · obtain ⟨h1, h2⟩ := startE_get e
      rcases h2 with ⟨rfl, h2⟩ | rfl
      · obtain ⟨h3, h4⟩ := ai.io i h2 (jn i h2)
        refine ⟨h3, fun a _ z => z, fun j m' d2 hj e2 => h4 j hj ?_⟩
        exact (List.getElem?_eq_some_iff.mp (startE_get e2).1).1
      · cases hw
    · obtain ⟨h1, h2⟩ := startE_get e
      rcases h2 with ⟨rfl, h2⟩ | rfl
      · exact ⟨fun z => (by cases z), fun _ a ha => .inl ⟨h2, ha⟩⟩
      · exact ⟨fun z => (by cases z), fun z => (by cases z)⟩
  have fin : ∀ {v : V} {σ' : L2.St} {H' : Hp} {E' : Env} {Fs : Nat → List Addr} {F' : List Addr} {d2 : D}, ioOut E' J = some ds' → d2 = d → Rel G C H' σ' E' Fs → Rds G H' d2 v F' → RetOk ro C E' Fs F' → Q v H' := fun {v σ' H' E' Fs F' d2} eo ed R' rd ret => by
    subst ed
    refine q v H' F' Fs rd ret.1 (fun a ha => (ret.2 a ha).1) ⟨fun x j hj => ?_⟩ (R'.fr.mono fun q o e ⟨i, hi, ha⟩ => ⟨i, hi, ha⟩)
    have hj' : j ∈ J := List.mem_of_getElem? hj
    obtain ⟨d3, h1, h2⟩ := ioOut_get eo hj
    obtain ⟨v3, h3, h4, h5⟩ := R'.rd j _ _ h2
    obtain ⟨h6, h7, h8⟩ := R'.nd j _ _ h2 rfl
    have hjl : j < vs.length := by rw [ai.len]; exact jn j hj'
    refine ⟨d3, v3, h1, ?_, h4, h6, fun a ha => ?_, fun a ha => (ret.2 a ha).2 j _ h2, fun i hi hij => ?_⟩
    · rw [h5 rfl]
      show vs[j]? = some ((vs[j]?).getD .non)
      rw [List.getElem?_eq_getElem hjl]
      rfl
    · rcases (R'.nw j _ _ h2).2 rfl a ha with z | z
      · exact .inl z.2
      · exact .inr z
    · obtain ⟨x', hx', ex⟩ := List.mem_iff_getElem.mp hi
      obtain ⟨d4, _, h9⟩ := ioOut_get eo (show J[x']? = some i by rw [← ex]; exact List.getElem?_eq_getElem hx')
      exact h8 i _ _ hij h9
  unfold callD at eF
  split at eF
  · rename_i d1 E1 e1
    split at eF
    · rename_i ds1 e2
      cases eF
      exact ⟨C, _, FA, R, _, e1, fun v σ' H' Fs F' R' rd ret => fin e2 rfl R' rd ret⟩
    · cases eF
  · rename_i E1 e1
    split at eF
    · rename_i ds1 e2
      cases eF
      exact ⟨C, _, FA, R, _, e1, fun σ' H' Fs R' => fin e2 rfl R' (rds_non.mpr ⟨rfl, rfl⟩) ⟨fun _ => List.nodup_nil, fun a ha => by cases ha⟩⟩
    · cases eF
  · cases eF
theorem spV_len {J : List Nat} {ro : Bool} {n : Nat} {F : FD} : ∀ vs H Q E, spV G J ro n F vs H Q E → vs.length = n := fun vs H Q E ⟨_, _, h, _⟩ => h
/-- a def keeps what its body's reading says -/
theorem fnV {x qu : Str} {st : Stmt} {f : Addr} {fd : FuncData} {N ps : List Str} {k : Nat} {J : List Nat} {ro : Bool} {S : SF} (F : Fun G.K x qu st f fd) (Sc : FnScope N ps (defScope st)) (hn : ps.length ≤ N.length) (hJ : J.all (fun j => decide (j < ps.length)) = true)
    (hb : ∀ (cd : Value) (B : Around) (ou : List PySem.Env) (s : Shared) (H : Hp) (E : XK), XOk G (cxOf CX0 P w G.K mg b0 N qu (defScope st) f cd B ou s H E).nox → (B.deeper (envOfC qu (defScope st) s.heap.objs.size f cd)).guards = some [] → Room k (B.deeper (envOfC qu (defScope st) s.heap.objs.size f cd)) →
      VSs G (cxOf CX0 P w G.K mg b0 N qu (defScope st) f cd B ou s H E).nox ro (defBody st) S) :
    TA.FnG P w G.K mg b0 CX0 (k + 1) f fd ps (spV G J ro ps.length (callD S N.length J)) :=
  TA.FunG.ok F Sc spV_len fun cd B ou s H vs Q E hg hr h => ⟨_, hb cd B ou s H E ⟨rfl, rfl, show (B.deeper (envOfC qu (defScope st) s.heap.objs.size f cd)).units + 70 < cLine by have := hr.un; omega⟩ hg hr, post_call hn hJ h⟩
end
/-! ### calls -/
def setD (E : Env) (i : Nat) (d : D) : Env := match E[i]? with
  | some (some (m, _)) => E.set i (some (m, d))
  | _ => E
def setIO (E : Env) : List Nat → List D → Env
  | i :: IO, d :: ds => setIO (setD E i d) IO ds
  | _, _ => E
def ioW (E : Env) (IO : List Nat) : Bool := IO.all fun i => match E[i]? with
  | some (some (m, _)) => m.w
  | _ => false
def eCall (F : FD) (IO : List Nat) (l : LF) : EF := fun E => match l E with
  | some (ds, E') => if ioW E' IO then (match F ds with
    | some (d, ds') => if ds'.length = IO.length then some (d, setIO E' IO ds') else none
    | none => none) else none
  | none => none
theorem setD_get_ne {E : Env} {i j : Nat} {d : D} (h : j ≠ i) : (setD E i d)[j]? = E[j]? := by
  unfold setD
  split
  · rw [List.getElem?_set_ne (Ne.symm h)]
  · rfl
theorem setD_get {E : Env} {i : Nat} {m : Mode} {d d' : D} (h : E[i]? = some (some (m, d))) : (setD E i d')[i]? = some (some (m, d')) := by
  unfold setD
  rw [h]
  exact List.getElem?_set_self (List.getElem?_eq_some_iff.mp h).1
theorem setD_len {E : Env} {i : Nat} {d : D} : (setD E i d).length = E.length := by
  unfold setD
  split
  · rw [List.length_set]
  · rfl
theorem setIO_len : ∀ {IO : List Nat} {ds : List D} {E : Env}, (setIO E IO ds).length = E.length
  | [], _, _ => rfl
  | _ :: _, [], _ => rfl
  | i :: IO, d :: ds, E => by rw [setIO, setIO_len, setD_len]
theorem setIO_out : ∀ {IO : List Nat} {ds : List D} {E : Env} {j : Nat}, j ∉ IO → (setIO E IO ds)[j]? = E[j]?
  | [], _, _, _, _ => rfl
  | _ :: _, [], _, _, _ => rfl
  | i :: IO, d :: ds, E, j, h => by
    rw [setIO, setIO_out fun z => h (List.mem_cons_of_mem _ z), setD_get_ne fun z => h (by rw [z]; exact List.mem_cons_self)]
theorem setIO_in : ∀ {IO : List Nat} {ds : List D} {E : Env} {x i : Nat} {m : Mode} {d d' : D}, IO.Nodup → IO[x]? = some i → ds[x]? = some d' → E[i]? = some (some (m, d)) → (setIO E IO ds)[i]? = some (some (m, d'))
  | [], _, _, x, i, _, _, _, _, e, _, _ => by simp at e
  | _ :: _, [], _, x, i, _, _, _, _, _, e, _ => by simp at e
  | j :: IO, d0 :: ds, E, x, i, m, d, d', nd, e1, e2, e3 => by
    rw [List.nodup_cons] at nd
    rw [setIO]
    cases x with
    | zero =>
      simp at e1 e2
      subst e1 e2
      rw [setIO_out nd.1]
      exact setD_get e3
    | succ x =>
      have hi : i ∈ IO := List.mem_of_getElem? (show IO[x]? = some i by simpa using e1)
      exact setIO_in nd.2 (by simpa using e1) (by simpa using e2) (by rw [setD_get_ne fun z => nd.1 (by rw [← z]; exact hi)]; exact e3)
/-- the arguments that are written are slots of their own -/
def ioKinds (ks : List Kind) (J IO : List Nat) : Bool := (J.length == IO.length) && decide IO.Nodup && decide J.Nodup && ((J.zip IO).all fun p => decide (ks[p.1]? = some (Kind.ref p.2))) &&
  (ks.zipIdx.all fun p => J.contains p.2 || p.1.safe IO)
section
variable {G : Gb} {X : Cx} {k : Nat} {f : Addr} {fd : FuncData} {ps : List Str} {J IO : List Nat} {ro : Bool} {F : FD} {x : Str} {p pos : Pos} {e : Expr} {es : List Expr} {M : List Nat} {ks : List Kind} {l : LF}
theorem ArgsOk.all {σ : L2.St} {H H' : Hp} {E : Env} {Fs : Nat → List Addr} : ∀ {ks : List Kind} {ds : List D} {vs : List V} {FF : List (List Addr)}, ArgsOk G σ H H' E Fs ks ds vs FF → ds.length = ks.length ∧ vs.length = ks.length ∧ FF.length = ks.length ∧
    ∀ (j : Nat) (k : Kind), ks[j]? = some k → ∃ d v F, ds[j]? = some d ∧ vs[j]? = some v ∧ FF[j]? = some F ∧ Rds G H' d v F ∧ KOk σ H E Fs k d v F
  | [], _, _, _, h => by
    obtain ⟨rfl, rfl, rfl⟩ := h
    exact ⟨rfl, rfl, rfl, fun j k e => by simp at e⟩
  | k :: ks, _, _, _, h => by
    obtain ⟨d, ds', v, vs', F, FF', rfl, rfl, rfl, h4, h5, h6, h7⟩ := h
    obtain ⟨l1, l2, l3, h8⟩ := h7.all
    refine ⟨by simp [l1], by simp [l2], by simp [l3], fun j k' e => ?_⟩
    cases j with
    | zero =>
      simp at e
      subst e
      exact ⟨d, v, F, rfl, rfl, rfl, h4, h5⟩
    | succ j => simpa using h8 j k' (by simpa using e)
/-- the kind of what a def gives -/
def kRet (ro : Bool) : Kind := if ro then .own else .vw []
theorem call_of {σ : L2.St} {H : Hp} {Q : VK} {E : XK} (hk : ioKinds ks J IO = true) (hn : ks.length = ps.length) (h : tV G (M ++ IO) (kRet ro) (eCall F IO l) σ H Q) : tVL G M ks l σ H fun vs H1 => spV G J ro ps.length F vs H1 Q E := by
  obtain ⟨C, E0, Fs, R, d, E', e, q⟩ := h
  unfold eCall at e
  split at e
  · rename_i ds E1 e1
    split at e
    · rename_i hw
      split at e
      · rename_i d' ds' eF
        split at e
        · rename_i hlen
          cases e
          refine ⟨C, E0, Fs, R, ds, E1, e1, fun vs H1 Fs1 FF R1 s1 a1 => ?_⟩
          unfold ioKinds at hk
          simp only [Bool.and_eq_true, beq_iff_eq, decide_eq_true_eq] at hk
          obtain ⟨⟨⟨⟨lJ, ndI⟩, ndJ⟩, hio⟩, hsf⟩ := hk
          obtain ⟨l1, l2, l3, all⟩ := a1.all
          have tr1 : ∀ {i m d a}, E1[i]? = some (some (m, d)) → a ∈ Fs1 i → ∃ o, H1 a = some o := fun {i m d a} e ha => by
            obtain ⟨v, _, r, _⟩ := R1.rd i m d e
            obtain ⟨o, eo, _⟩ := Rds.trk d v _ r a ha
            exact ⟨o, eo⟩
          -- each written argument
          have pos_ : ∀ {y j i : Nat}, J[y]? = some j → IO[y]? = some i → ks[j]? = some (Kind.ref i) := fun {y j i} e1 e2 => by
            have hm : (j, i) ∈ J.zip IO := List.mem_of_getElem? (i := y) (by rw [List.getElem?_zip_eq_some]; exact ⟨e1, e2⟩)
            exact of_decide_eq_true (List.all_eq_true.mp hio (j, i) hm)
          have key0 : ∀ {y j i : Nat}, J[y]? = some j → IO[y]? = some i → ∃ m dd v, E1[i]? = some (some (m, dd)) ∧ m.w = true ∧ σ[i]? = some (some v) ∧ vs[j]? = some v ∧ FF[j]? = some (Fs1 i) := fun {y j i} e1 e2 => by
            obtain ⟨dd, v, F', h1, h2, h3, h4, m, h5, h6, h7⟩ := all j _ (pos_ e1 e2)
            subst h7
            have hw' := List.all_eq_true.mp hw i (List.mem_of_getElem? e2)
            rw [h5] at hw'
            exact ⟨m, dd, v, h5, hw', h6, h2, h3⟩
          have ofJ : ∀ {j}, j ∈ J → ∃ y i, J[y]? = some j ∧ IO[y]? = some i := fun {j} hj => by
            obtain ⟨y, hy, ey⟩ := List.mem_iff_getElem.mp hj
            exact ⟨y, IO[y]'(by omega), by rw [← ey]; exact List.getElem?_eq_getElem hy, List.getElem?_eq_getElem _⟩
          have ofI : ∀ {i}, i ∈ IO → ∃ y j, J[y]? = some j ∧ IO[y]? = some i := fun {i} hi => by
            obtain ⟨y, hy, ey⟩ := List.mem_iff_getElem.mp hi
            exact ⟨y, J[y]'(by omega), List.getElem?_eq_getElem _, by rw [← ey]; exact List.getElem?_eq_getElem hy⟩
          have inj : ∀ {y y' : Nat} {j : Nat}, J[y]? = some j → J[y']? = some j → y = y' := fun {y y' j} e1 e2 => by
            obtain ⟨h1, e1⟩ := List.getElem?_eq_some_iff.mp e1
            obtain ⟨h2, e2⟩ := List.getElem?_eq_some_iff.mp e2
            exact (List.getElem_inj ndJ).mp (e1.trans e2.symm)
          have injI : ∀ {y y' : Nat} {j : Nat}, IO[y]? = some j → IO[y']? = some j → y = y' := fun {y y' j} e1 e2 => by
            obtain ⟨h1, e1⟩ := List.getElem?_eq_some_iff.mp e1
            obtain ⟨h2, e2⟩ := List.getElem?_eq_some_iff.mp e2
            exact (List.getElem_inj ndI).mp (e1.trans e2.symm)
          have fa : ∀ {j : Nat} {F' : List Addr}, FF[j]? = some F' → (FF[j]?).getD [] = F' := fun {j F'} e => by rw [e]; rfl
          refine ⟨ds, fun j => (FF[j]?).getD [], by rw [l2]; exact hn, ⟨by rw [l2, l1], fun j dj ej => ?_, fun j hj hjl => ?_⟩, R1.tb, d, ds', eF, fun v H3 A FA' rA ndA nwA ao c3 => ?_⟩
          · have hj : j < ks.length := by rw [← l1]; exact (List.getElem?_eq_some_iff.mp ej).1
            obtain ⟨dd, v, F', h1, h2, h3, h4, _⟩ := all j _ (List.getElem?_eq_getElem hj)
            rw [ej] at h1
            cases h1
            exact ⟨v, h2, by rw [fa h3]; exact h4⟩
          · obtain ⟨y, i, ey, ei⟩ := ofJ hj
            obtain ⟨m, dd, v, h1, h2, h3, h4, h5⟩ := key0 ey ei
            rw [fa h5]
            refine ⟨(R1.nd i m dd h1 h2).1, fun j' hj' hl' a ha hb => ?_⟩
            have hk' : j' < ks.length := by rw [← l1]; exact hl'
            obtain ⟨d2, v2, F2, g1, g2, g3, g4, g5⟩ := all j' _ (List.getElem?_eq_getElem hk')
            rw [fa g3] at hb
            by_cases hJ' : j' ∈ J
            · obtain ⟨y', i', ey', ei'⟩ := ofJ hJ'
              obtain ⟨m', dd', v', h1', h2', h3', h4', h5'⟩ := key0 ey' ei'
              rw [h5'] at g3
              cases g3
              refine (R1.nd i m dd h1 h2).2.2 i' m' dd' (fun z => ?_) h1' a ha hb
              subst z
              have := injI ei ei'
              subst this
              rw [ey] at ey'
              cases ey'
              exact hj' rfl
            · have hs : (ks[j']).safe IO = true := by
                have z := List.all_eq_true.mp hsf (ks[j'], j') (List.mk_mem_zipIdx_iff_getElem?.mpr (List.getElem?_eq_getElem hk'))
                rw [Bool.or_eq_true] at z
                rcases z with z | z
                · exact absurd (by simpa using z) hJ'
                · exact z
              exact Vw.apart R1 (Kind.safe_of hs) g5.vw a hb ⟨i, List.mem_of_getElem? ei, m, dd, h1, h2, ha⟩
          · -- behind the call
            have key : ∀ {i}, i ∈ IO → ∃ y j d2 v2 m dd, IO[y]? = some i ∧ J[y]? = some j ∧ E1[i]? = some (some (m, dd)) ∧ m.w = true ∧ σ[i]? = some (some v2) ∧ ds'[y]? = some d2 ∧ Rds G H3 d2 v2 (FA' j) ∧ (FA' j).Nodup ∧ (∀ a ∈ FA' j, a ∈ Fs1 i ∨ H1 a = none) ∧ (∀ a ∈ A, a ∉ FA' j) ∧ ∀ i ∈ J, i ≠ j → ∀ a ∈ FA' j, a ∉ FA' i := fun {i} hi => by
              obtain ⟨y, j, ey, ei⟩ := ofI hi
              obtain ⟨m, dd, v2, h1, h2, h3, h4, h5⟩ := key0 ey ei
              obtain ⟨d2, v3, g1, g2, g3, g4, g5, g6, g7⟩ := ao.rd y j ey
              rw [h4] at g2
              cases g2
              rw [fa h5] at g5
              exact ⟨y, j, d2, v2, m, dd, ei, ey, h1, h2, h3, g1, g3, g4, g5, g6, g7⟩
            let Fs3 : Nat → List Addr := fun i => if i ∈ IO then FA' ((J[IO.idxOf i]?).getD 0) else Fs1 i
            have f3in : ∀ {i y j}, IO[y]? = some i → J[y]? = some j → Fs3 i = FA' j := fun {i y j} ei ej => by
              have hi : i ∈ IO := List.mem_of_getElem? ei
              have e0 : IO.idxOf i = y := injI (by rw [List.getElem?_eq_getElem (List.idxOf_lt_length_iff.mpr hi), List.getElem_idxOf]) ei
              show (if i ∈ IO then FA' ((J[IO.idxOf i]?).getD 0) else Fs1 i) = _
              rw [if_pos hi, e0, ej]
              rfl
            have f3out : ∀ {i}, i ∉ IO → Fs3 i = Fs1 i := fun {i} hi => if_neg hi
            have ioQ : ∀ q, (∃ j ∈ J, q ∈ (FF[j]?).getD []) → ∃ i ∈ IO, ∃ m dd, E1[i]? = some (some (m, dd)) ∧ m.w = true ∧ q ∈ Fs1 i := fun q ⟨j, hj, hq⟩ => by
              obtain ⟨y, i, ey, ei⟩ := ofJ hj
              obtain ⟨m, dd, v2, h1, h2, h3, h4, h5⟩ := key0 ey ei
              rw [fa h5] at hq
              exact ⟨i, List.mem_of_getElem? ei, m, dd, h1, h2, hq⟩
            have s3 : Stp IO H1 H3 E1 (setIO E1 IO ds') Fs1 Fs3 := by
              refine ⟨c3.mono fun q o _ h => ioQ q h, fun i hi => f3out hi, fun i a ha => ?_, fun i hi => setIO_out hi, fun i => ?_⟩
              · by_cases hi : i ∈ IO
                · obtain ⟨y, j, d2, v2, m, dd, ei, ey, h1, h2, h3, h4, h5, h6, h7, _⟩ := key hi
                  rw [f3in ei ey] at ha
                  exact h7 a ha
                · rw [f3out hi] at ha
                  exact .inl ha
              · by_cases hi : i ∈ IO
                · obtain ⟨y, j, d2, v2, m, dd, ei, ey, h1, h2, h3, h4, _⟩ := key hi
                  have e3 := setIO_in ndI ei h4 h1
                  rw [e3, h1]
                  exact ⟨fun m' d' e => by cases e; exact ⟨_, rfl⟩, fun m' d' e => by cases e; exact ⟨_, rfl⟩⟩
                · rw [setIO_out hi]
                  exact ⟨fun m' d' e => ⟨d', e⟩, fun m' d' e => ⟨d', e⟩⟩
            have R3 : Rel G C H3 σ (setIO E1 IO ds') Fs3 := by
              refine ⟨by rw [setIO_len]; exact R1.len, fun i m' d2' e => ?_, fun i m' d2' e hw' => ?_, fun i m' d2' e => ?_, ?_, ?_, R1.pt, fun T hT => c3.tab (R1.tb T hT)⟩
              · by_cases hi : i ∈ IO
                · obtain ⟨y, j, d2, v2, m, dd, ei, ey, h1, h2, h3, h4, h5, _⟩ := key hi
                  rw [setIO_in ndI ei h4 h1] at e
                  cases e
                  refine ⟨v2, h3, by rw [f3in ei ey]; exact h5, fun z => ?_⟩
                  obtain ⟨v4, g1, _, g2⟩ := R1.rd i _ _ h1
                  rw [h3] at g1
                  cases g1
                  exact g2 z
                · rw [setIO_out hi] at e
                  obtain ⟨v4, g1, g2, g3⟩ := R1.rd i _ _ e
                  have ap : ∀ a ∈ Fs1 i, ¬ ∃ j ∈ J, a ∈ (FF[j]?).getD [] := fun a ha h => by
                    obtain ⟨i', hi', m, dd, h1, h2, h3⟩ := ioQ a h
                    exact (R1.nd i' m dd h1 h2).2.2 i _ _ (fun z => hi (by rw [z]; exact hi')) e a h3 ha
                  exact ⟨v4, g1, by rw [f3out hi]; exact Rds.chg c3 _ _ _ ap g2, g3⟩
              · by_cases hi : i ∈ IO
                · obtain ⟨y, j, d2, v2, m, dd, ei, ey, h1, h2, h3, h4, h5, h6, h7, h8, h9⟩ := key hi
                  rw [f3in ei ey]
                  obtain ⟨g1, g2, g3⟩ := R1.nd i m dd h1 h2
                  refine ⟨h6, fun a ha hT => ?_, fun j' mj dj hj' ej a ha hb => ?_⟩
                  · rcases h7 a ha with z | z
                    · exact g2 a z hT
                    · exact (R1.hn a z).2 hT
                  · by_cases hj2 : j' ∈ IO
                    · obtain ⟨y', j2, d3, v3, m3, dd3, ei', ey', _⟩ := key hj2
                      rw [f3in ei' ey'] at hb
                      refine h9 j2 (List.mem_of_getElem? ey') (fun z => ?_) a ha hb
                      subst z
                      have := inj ey ey'
                      subst this
                      rw [ei] at ei'
                      cases ei'
                      exact hj' rfl
                    · rw [setIO_out hj2] at ej
                      rw [f3out hj2] at hb
                      rcases h7 a ha with z | z
                      · exact g3 j' mj dj hj' ej a z hb
                      · obtain ⟨o, eo⟩ := tr1 ej hb
                        rw [z] at eo
                        cases eo
                · rw [setIO_out hi] at e
                  rw [f3out hi]
                  obtain ⟨g1, g2, g3⟩ := R1.nd i _ _ e hw'
                  refine ⟨g1, g2, fun j' mj dj hj' ej a ha hb => ?_⟩
                  by_cases hj2 : j' ∈ IO
                  · obtain ⟨y', j2, d3, v3, m3, dd3, ei', ey', k1, k2, k3, k4, k5, k6, k7, _⟩ := key hj2
                    rw [f3in ei' ey'] at hb
                    rcases k7 a hb with z | z
                    · exact g3 j' _ _ hj' k1 a ha z
                    · obtain ⟨o, eo⟩ := tr1 e ha
                      rw [z] at eo
                      cases eo
                  · rw [setIO_out hj2] at ej
                    rw [f3out hj2] at hb
                    exact g3 j' _ _ hj' ej a ha hb
              · by_cases hi : i ∈ IO
                · obtain ⟨y, j, d2, v2, m, dd, ei, ey, h1, h2, h3, h4, h5, h6, h7, h8, h9⟩ := key hi
                  rw [setIO_in ndI ei h4 h1] at e
                  cases e
                  obtain ⟨g1, g2⟩ := R1.nw i _ _ h1
                  rw [f3in ei ey]
                  refine ⟨fun z a ha => ?_, fun z a ha => ?_⟩
                  · rcases h7 a ha with y' | y'
                    · exact g1 z a y'
                    · exact (R1.hn a y').1
                  · rcases h7 a ha with y' | y'
                    · exact g2 z a y'
                    · exact .inr (R1.hn a y').1
                · rw [setIO_out hi] at e
                  rw [f3out hi]
                  exact R1.nw i _ _ e
              · refine (R1.fr.trans c3).mono fun q o e h => ?_
                rcases h with h | h
                · exact h
                · obtain ⟨i, hi, m, dd, h1, h2, h3⟩ := ioQ q h
                  obtain ⟨g1, g2⟩ := R1.nw i _ _ h1
                  cases m with
                  | own =>
                    rw [g1 rfl q h3] at e
                    cases e
                  | io =>
                    rcases g2 rfl q h3 with z | z
                    · exact ⟨i, z⟩
                    · rw [z] at e
                      cases e
                  | arg => cases h2
                  | shr => cases h2
              · refine (R1.pr.trans c3).mono fun q o e h => ?_
                rcases h with h | h
                · exact h
                · obtain ⟨i, hi, m, dd, h1, h2, h3⟩ := ioQ q h
                  exact (R1.nd i m dd h1 h2).2.1 q h3
            have st := s1.trans s3
            have lo : ∀ a ∈ A, Loose H (setIO E1 IO ds') Fs3 a := fun a ha => ⟨s1.chg.back (nwA a ha), fun i ⟨m', d2', e⟩ hm => by
              by_cases hi : i ∈ IO
              · obtain ⟨y, j, d2, v2, m, dd, ei, ey, h1, h2, h3, h4, h5, h6, h7, h8, h9⟩ := key hi
                rw [f3in ei ey] at hm
                exact h8 a ha hm
              · rw [setIO_out hi] at e
                rw [f3out hi] at hm
                obtain ⟨o, eo⟩ := tr1 e hm
                rw [nwA a ha] at eo
                cases eo⟩
            refine q v H3 Fs3 A R3 st rA ?_
            cases ro with
            | true => exact ⟨ndA rfl, fun a ha => .inr (lo a ha)⟩
            | false => exact fun a ha => .inr (lo a ha)
        · cases e
      · cases e
    · cases e
  · cases e
theorem ve_call (F0 : TA.FnG X.prog X.w X.K X.mg X.base CX0 k f fd ps (spV G J ro ps.length F)) (hg : X.A.guards = some []) (hr : Room k X.A) (hgl : Gl X x) (hm : X.mg x = some (.ref f)) (hkp : PySem.W.keepIn X.K (.ref f) = true)
    (hb : Binds X.K fd ps []) {E : XK} (hx : Passes CX0 X E) (IO : List Nat) (ha : VL G X (e :: es) M ks l) (hk : ioKinds ks J IO = true := by rfl) (hn : ks.length = ps.length := by rfl)
    (hdb : (x == ("__debug__" : Str)) = false := by decide) (he : starEach (e :: es) X.env = (false, eval e X.env) :: starEach es X.env := by rfl) (hpl : (backTo pos (starEach es X.env)).any (·.1) = false := by rfl) :
    VE G X (.Call (.Name x p) (e :: es) [] pos) (M ++ IO) (kRet ro) (eCall F IO l) :=
  PE.imp (TA.pe_callG F0 hg hr hgl hm hkp hb .nil hx ha hdb he hpl) fun σ H Q h => (call_of (E := E) hk hn h).mono fun vs H1 q => by rw [List.append_nil]; exact q
/-- a slot handed in to be written -/
theorem ve_ref {i : Nat} {e : Expr} (h : PE X e (tVar i)) : VE G X e [] (.ref i) (eVar i) := PE.imp h fun σ H Q ⟨C, E, Fs, R, d, E', e, q⟩ => by
  unfold eVar at e
  split at e
  · rename_i m d' e1
    cases e
    obtain ⟨v, h1, h2, _⟩ := R.rd i m _ e1
    exact ⟨v, h1, q v H Fs _ R Stp.refl h2 ⟨m, e1, h1, rfl⟩⟩
  · cases e
end
end
end VL
set_option maxHeartbeats 4000000
namespace VL
noncomputable section
open PySem PySem.Spec PyProof.Rows L2
open GxR (TabB TabG Tabbed)
/-! ### list comprehensions -/
def wipeE (E : Env) : List Nat → Env
  | [] => E
  | v :: vs => (wipeE E vs).set v none
def setM (E1 E2 : Env) (M : List Nat) : Env := M.foldl (fun E i => E.set i ((E2[i]?).getD none)) E1
theorem wipeE_len {E : Env} : ∀ {vs : List Nat}, (wipeE E vs).length = E.length
  | [] => rfl
  | v :: vs => by rw [wipeE, List.length_set, wipeE_len]
theorem wipeE_out {E : Env} {i : Nat} : ∀ {vs : List Nat}, i ∉ vs → (wipeE E vs)[i]? = E[i]?
  | [], _ => rfl
  | v :: vs, h => by
    rw [wipeE, List.getElem?_set_ne (fun z => h (by rw [z]; exact List.mem_cons_self)), wipeE_out fun z => h (List.mem_cons_of_mem _ z)]
theorem wipeE_in {E : Env} {i : Nat} : ∀ {vs : List Nat}, i ∈ vs → i < E.length → (wipeE E vs)[i]? = some none
  | v :: vs, h, hl => by
    rw [wipeE]
    by_cases e : v = i
    · subst e
      exact List.getElem?_set_self (by rw [wipeE_len]; exact hl)
    · rw [List.getElem?_set_ne e]
      exact wipeE_in ((List.mem_cons.mp h).elim (fun z => absurd z.symm e) id) hl
theorem wipeE_some {E : Env} {i : Nat} {vs : List Nat} {x : Mode × D} (h : (wipeE E vs)[i]? = some (some x)) : E[i]? = some (some x) ∧ i ∉ vs := by
  by_cases hi : i ∈ vs
  · by_cases hl : i < E.length
    · rw [wipeE_in hi hl] at h
      cases h
    · rw [List.getElem?_eq_none (by rw [wipeE_len]; omega)] at h
      cases h
  · rw [wipeE_out hi] at h
    exact ⟨h, hi⟩
theorem setM_len {E2 : Env} : ∀ {M : List Nat} {E1 : Env}, (setM E1 E2 M).length = E1.length
  | [], _ => rfl
  | i :: M, E1 => by
    show (setM (E1.set i _) E2 M).length = _
    rw [setM_len, List.length_set]
theorem setM_out {E2 : Env} {i : Nat} : ∀ {M : List Nat} {E1 : Env}, i ∉ M → (setM E1 E2 M)[i]? = E1[i]?
  | [], _, _ => rfl
  | j :: M, E1, h => by
    show (setM (E1.set j _) E2 M)[i]? = _
    rw [setM_out fun z => h (List.mem_cons_of_mem _ z), List.getElem?_set_ne fun z => h (by rw [z]; exact List.mem_cons_self)]
theorem setM_in {E2 : Env} {i : Nat} : ∀ {M : List Nat} {E1 : Env}, i ∈ M → i < E1.length → (setM E1 E2 M)[i]? = some ((E2[i]?).getD none)
  | j :: M, E1, h, hl => by
    show (setM (E1.set j _) E2 M)[i]? = _
    by_cases hi : i ∈ M
    · exact setM_in hi (by rw [List.length_set]; exact hl)
    · have e : i = j := (List.mem_cons.mp h).elim id fun z => absurd z hi
      subst e
      rw [setM_out hi, List.getElem?_set_self hl]
theorem frz1_out {E : Env} {i j : Nat} (h : i ≠ j) : (frz1 E j)[i]? = E[i]? := by
  unfold frz1
  split
  · exact List.getElem?_set_ne (Ne.symm h)
  · rfl
theorem freeze_out {i : Nat} : ∀ {S : List Nat} {E : Env}, i ∉ S → (freeze E S)[i]? = E[i]?
  | [], _, _ => rfl
  | j :: S, E, h => by
    show (freeze (frz1 E j) S)[i]? = _
    rw [freeze_out fun z => h (List.mem_cons_of_mem _ z), frz1_out fun z => h (by rw [z]; exact List.mem_cons_self)]
def lcL (g : D → Env → Option Env) (t : TF) (f : EF) (vs : List Nat) : List D → Env → Option (List D × Env)
  | [], E => some ([], E)
  | d :: ds, E => match g d E with
    | none => none
    | some E1 => match t E1 with
      | none => none
      | some (false, E2) => lcL g t f vs ds (wipeE E2 vs)
      | some (true, E2) => match f E2 with
        | none => none
        | some (y, E3) => match lcL g t f vs ds (wipeE E3 vs) with
          | some (ys, E4) => some (y :: ys, E4)
          | none => none
def kLc (k ke : Kind) (vs : List Nat) : Kind := if ke = .own then .own else .top (k.S ++ ke.S.filter fun s => !vs.contains s)
def eLc (k : Kind) (src : IF) (g : Bool → D → Env → Option Env) (t : TF) (f : EF) (vs M : List Nat) : EF := fun E => match src E with
  | some (ds, E1) => (match lcL (g (newAll E1 k.S)) t f vs ds (wipeE (freeze E1 k.S) vs) with
    | some (ys, E2) => if sl (decide (ds.length ≤ sizeLine)) then some (.lst ys, setM E1 E2 M) else none
    | none => none)
  | none => none
section
variable {G : Gb} {C : Ctx} {H H' : Hp} {σ : L2.St} {E : Env} {Fs Fs' : Nat → List Addr}
theorem Rel.drop2 (R : Rel G C H σ E Fs) (i : Nat) : Rel G C H (σ.set i none) (E.set i none) Fs := by
  have h : ∀ {j m' d'}, (E.set i none)[j]? = some (some (m', d')) → E[j]? = some (some (m', d')) ∧ j ≠ i := fun {j m' d'} e => by
    by_cases h : j = i
    · subst h
      by_cases hj : j < E.length
      · rw [List.getElem?_set_self hj] at e
        cases e
      · rw [List.getElem?_eq_none (by rw [List.length_set]; omega)] at e
        cases e
    · rw [List.getElem?_set_ne (Ne.symm h)] at e
      exact ⟨e, h⟩
  refine ⟨by rw [List.length_set, List.length_set]; exact R.len, fun j m' d' e => ?_, fun j m' d' e hw => let ⟨a, b, c⟩ := R.nd j m' d' (h e).1 hw; ⟨a, b, fun j' m2 d2 hj e2 => c j' m2 d2 hj (h e2).1⟩, fun j m' d' e => R.nw j m' d' (h e).1, R.fr, R.pr, R.pt, R.tb⟩
  obtain ⟨e1, e2⟩ := h e
  rw [List.getElem?_set_ne (Ne.symm e2)]
  exact R.rd j m' d' e1
theorem Rel.wipe (R : Rel G C H σ E Fs) : ∀ vs : List Nat, Rel G C H (L2.wipe σ vs) (wipeE E vs) Fs
  | [] => R
  | v :: vs => (R.wipe vs).drop2 v
theorem Rel.fs (R : Rel G C H σ E Fs) (h : ∀ i, Asg E i → Fs' i = Fs i) : Rel G C H σ E Fs' where
  len := R.len
  rd := fun i m d e => by rw [h i ⟨m, d, e⟩]; exact R.rd i m d e
  nd := fun i m d e hw => by
    rw [h i ⟨m, d, e⟩]
    obtain ⟨h1, h2, h3⟩ := R.nd i m d e hw
    exact ⟨h1, h2, fun j m' d' hj e' => by rw [h j ⟨m', d', e'⟩]; exact h3 j m' d' hj e'⟩
  nw := fun i m d e => by rw [h i ⟨m, d, e⟩]; exact R.nw i m d e
  fr := R.fr
  pr := R.pr
  pt := R.pt
  tb := R.tb
/-- what no slot has is written -/
theorem Rel.chgL {p : Addr} (R : Rel G C H σ E Fs) (c : Chg (fun q => q = p) H H') (n : ∀ i, Asg E i → p ∉ Fs i) (h0 : C.H0 p = none) (hT : ¬ C.T p) : Rel G C H' σ E Fs where
  len := R.len
  rd := fun i m d e => let ⟨v, h1, h2, h3⟩ := R.rd i m d e; ⟨v, h1, Rds.chg c d v _ (fun a ha z => n i ⟨m, d, e⟩ (by rw [← z]; exact ha)) h2, h3⟩
  nd := R.nd
  nw := R.nw
  fr := (R.fr.trans c).mono fun q o e z => z.elim id fun z => by rw [z, h0] at e; cases e
  pr := (R.pr.trans c).mono fun q o e z => z.elim id fun z => by rw [z]; exact hT
  pt := R.pt
  tb := fun T hT => c.tab (R.tb T hT)
end
theorem wipe_get {σ : L2.St} {i : Nat} : ∀ {vs : List Nat}, i ∈ vs → i < σ.length → (L2.wipe σ vs)[i]? = some none
  | v :: vs, h, hl => by
    show ((L2.wipe σ vs).set v none)[i]? = _
    by_cases e : v = i
    · subst e
      exact List.getElem?_set_self (by rw [wipe_length]; exact hl)
    · rw [List.getElem?_set_ne e]
      exact wipe_get ((List.mem_cons.mp h).elim (fun z => absurd z.symm e) id) hl
theorem wipe_eq {σ σ' : L2.St} {vs W : List Nat} (hl : σ'.length = (L2.wipe σ vs).length) (h : ∀ i, i ∉ W → σ'[i]? = (L2.wipe σ vs)[i]?) (hW : ∀ i ∈ W, i ∈ vs) : L2.wipe σ' vs = L2.wipe σ vs := by
  refine List.ext_getElem? fun i => ?_
  by_cases hi : i ∈ vs
  · by_cases hlt : i < σ.length
    · rw [wipe_get hi hlt, wipe_get hi (by rw [hl, wipe_length]; exact hlt)]
    · rw [List.getElem?_eq_none (by rw [wipe_length, hl, wipe_length]; omega), List.getElem?_eq_none (by rw [wipe_length]; omega)]
  · rw [wipe_out hi]
    exact h i fun z => hi (hW i z)
end
end VL
set_option maxHeartbeats 4000000
namespace VL
noncomputable section
open PySem PySem.Spec PyProof.Rows L2
open GxR (TabB TabG Tabbed)
/-- the state of a comprehension: what was gathered, and whose it is -/
structure LcI (G : Gb) (C : Ctx) (σ : L2.St) (M : List Nat) (Hb : Hp) (Ew : Env) (Fs1 : Nat → List Addr) (P : Addr) (F : List Addr) (Ss : List Nat) (own : Bool) (ys : List D) (Hc : Hp) (Ec : Env) (Fsc : Nat → List Addr) (us : List V) (Gs : List Addr) : Prop where
  rel : Rel G C Hc σ Ec Fsc
  stp : Stp M Hb Hc Ew Ec Fs1 Fsc
  nP : ∀ i, Asg Ec i → P ∉ Fsc i
  acc : Hc P = some (.lst us) ∧ P ∉ Gs ∧ RdsL G Hc ys us Gs ∧ (∀ a ∈ Gs, a ∈ F ∨ (∃ s ∈ Ss, Asg Ew s ∧ a ∈ Fs1 s) ∨ Loose Hb Ec Fsc a) ∧ (own = true → Gs.Nodup ∧ ∀ a ∈ Gs, Loose Hb Ec Fsc a)
section
variable {G : Gb} {C : Ctx} {σ σ3 : L2.St} {M vs W : List Nat} {Hb Hc H2 H4 : Hp} {Ew Ec E3 E4 : Env} {Fs1 Fsc Fs3 Fs4 : Nat → List Addr} {P : Addr} {F A : List Addr} {Ss : List Nat} {own : Bool} {ys : List D} {b : Bool} {us : List V} {Gs : List Addr}
/-- a turn's steps behind the store of its item, seen from the turn's start -/
theorem lc_stp (hMv : ∀ i ∈ M, i ∉ vs) (hW : ∀ i ∈ W, i ∈ vs) (hEw : ∀ i ∈ vs, i < Ew.length → Ew[i]? = some none) (hlen : Ec.length = Ew.length) (s : Stp M Hb Hc Ew Ec Fs1 Fsc) (c : Chg No Hc H2) (b3 : BStp (.pr b) W A σ σ3 Ec E3 Fsc Fs3) (s4 : Stp M H2 H4 E3 E4 Fs3 Fs4) (l3 : E3.length = Ec.length) (l4 : E4.length = E3.length) :
    Stp M Hb H4 Ew (wipeE E4 vs) Fs1 (fun i => if i ∈ vs then Fs1 i else Fs4 i) := by
  have e3 : ∀ i, i ∉ vs → E3[i]? = Ec[i]? := fun i hi => b3.env b rfl i fun z => hi (hW i z)
  have f3 : ∀ i, i ∉ vs → Fs3 i = Fsc i := fun i hi => b3.fs i fun z => hi (hW i z)
  have sc : Chg (fun q => ∃ i ∈ M, ∃ m d, Ew[i]? = some (some (m, d)) ∧ m.w = true ∧ q ∈ Fs1 i) Hb H4 := by
    refine ((s.chg.trans c).trans s4.chg).mono fun q o e h => ?_
    rcases h with (h | h) | ⟨i, hi, m, d, h1, h2, h3⟩
    · exact h
    · exact h.elim
    · rw [e3 i (hMv i hi)] at h1
      rw [f3 i (hMv i hi)] at h3
      obtain ⟨d', h4⟩ := (s.md i).2 m d h1
      refine ⟨i, hi, m, d', h4, h2, ?_⟩
      rcases s.gr i q h3 with z | z
      · exact z
      · rw [e] at z
        cases z
  refine ⟨sc, fun i hi => ?_, fun i a ha => ?_, fun i hi => ?_, fun i => ?_⟩
  · by_cases hv : i ∈ vs
    · exact if_pos hv
    · rw [if_neg hv, s4.fs i hi, f3 i hv]
      exact s.fs i hi
  · by_cases hv : i ∈ vs
    · rw [if_pos hv] at ha
      exact .inl ha
    · rw [if_neg hv] at ha
      rcases s4.gr i a ha with z | z
      · rw [f3 i hv] at z
        exact s.gr i a z
      · exact .inr (s.chg.back (c.back z))
  · by_cases hv : i ∈ vs
    · by_cases hl : i < Ew.length
      · rw [hEw i hv hl, wipeE_in hv (by omega)]
      · rw [List.getElem?_eq_none (by rw [wipeE_len]; omega), List.getElem?_eq_none (by omega)]
    · rw [wipeE_out hv, s4.env i hi, e3 i hv]
      exact s.env i hi
  · by_cases hv : i ∈ vs
    · have h1 : ∀ m d, Ew[i]? ≠ some (some (m, d)) := fun m d e => by
        rw [hEw i hv (List.getElem?_eq_some_iff.mp e).1] at e
        cases e
      exact ⟨fun m d e => absurd e (h1 m d), fun m d e => absurd hv (wipeE_some e).2⟩
    · rw [wipeE_out hv]
      refine ⟨fun m d e => ?_, fun m d e => ?_⟩
      · obtain ⟨d1, z1⟩ := (s.md i).1 m d e
        rw [← e3 i hv] at z1
        exact (s4.md i).1 m d1 z1
      · obtain ⟨d1, z1⟩ := (s4.md i).2 m d e
        rw [e3 i hv] at z1
        exact (s.md i).2 m d1 z1
theorem Loose.later {a : Addr} {o : HO} {Hb : Hp} (hW : ∀ i ∈ W, i ∈ vs) (e : Hc a = some o) (c : Chg No Hc H2) (b3 : BStp (.pr b) W A σ σ3 Ec E3 Fsc Fs3) (s4 : Stp M H2 H4 E3 E4 Fs3 Fs4) (h : Loose Hb Ec Fsc a) : Loose Hb (wipeE E4 vs) (fun i => if i ∈ vs then Fs1 i else Fs4 i) a := by
  refine ⟨h.1, fun i ⟨m, d, e'⟩ hm => ?_⟩
  obtain ⟨e1, hv⟩ := wipeE_some e'
  have hm : a ∈ (if i ∈ vs then Fs1 i else Fs4 i) := hm
  rw [if_neg hv] at hm
  have hw : i ∉ W := fun z => hv (hW i z)
  obtain ⟨o2, e2⟩ := c.there e
  rcases s4.gr i a hm with z | z
  · rw [b3.fs i hw] at z
    obtain ⟨d1, z1⟩ := (s4.md i).2 m d e1
    rw [b3.env b rfl i hw] at z1
    exact h.2 i ⟨m, d1, z1⟩ z
  · rw [e2] at z
    cases z
/-- behind a turn that adds nothing -/
theorem LcI.skip (hMv : ∀ i ∈ M, i ∉ vs) (hW : ∀ i ∈ W, i ∈ vs) (hEw : ∀ i ∈ vs, i < Ew.length → Ew[i]? = some none) (hSs : ∀ s ∈ Ss, s ∉ M) (hF : ∀ a ∈ F, C.T a)
    (I : LcI G C σ M Hb Ew Fs1 P F Ss own ys Hc Ec Fsc us Gs) (hEl : Ec.length = Ew.length) (c : Chg No Hc H2) (b3 : BStp (.pr b) W A σ σ3 Ec E3 Fsc Fs3) (s4 : Stp M H2 H4 E3 E4 Fs3 Fs4) (R3 : Rel G C H2 σ3 E3 Fs3) (R4 : Rel G C H4 σ3 E4 Fs4) (hσ : L2.wipe σ3 vs = σ) :
    LcI G C σ M Hb Ew Fs1 P F Ss own ys H4 (wipeE E4 vs) (fun i => if i ∈ vs then Fs1 i else Fs4 i) us Gs := by
  have l3 : E3.length = Ec.length := by rw [R3.len, I.rel.len]; exact b3.len
  have l4 : E4.length = E3.length := by rw [R4.len, R3.len]
  have e3 : ∀ i, i ∉ vs → E3[i]? = Ec[i]? := fun i hi => b3.env b rfl i fun z => hi (hW i z)
  have f3 : ∀ i, i ∉ vs → Fs3 i = Fsc i := fun i hi => b3.fs i fun z => hi (hW i z)
  refine ⟨?_, lc_stp hMv hW hEw hEl I.stp c b3 s4 l3 l4, ?_, ?_⟩
  · have := R4.wipe vs
    rw [hσ] at this
    refine this.fs fun i ⟨m, d, e⟩ => if_neg (wipeE_some e).2
  · obtain ⟨h1, _⟩ := I.acc
    intro i ⟨m, d, e⟩ hm
    obtain ⟨e1, hv⟩ := wipeE_some e
    have hm : P ∈ (if i ∈ vs then Fs1 i else Fs4 i) := hm
    rw [if_neg hv] at hm
    rcases s4.gr i P hm with z | z
    · rw [f3 i hv] at z
      obtain ⟨d1, z1⟩ := (s4.md i).2 m d e1
      rw [e3 i hv] at z1
      exact I.nP i ⟨m, d1, z1⟩ z
    · rw [c.keep h1 rfl fun z => z] at z
      cases z
  · obtain ⟨h1, hPG, h2, h3, h4⟩ := I.acc
    have wr : ∀ {a}, (∃ i ∈ M, ∃ m d, E3[i]? = some (some (m, d)) ∧ m.w = true ∧ a ∈ Fs3 i) → ∃ i ∈ M, ∃ m d, Ec[i]? = some (some (m, d)) ∧ m.w = true ∧ a ∈ Fsc i := fun {a} ⟨i, hi, m, d, g1, g2, g3⟩ => by
      rw [e3 i (hMv i hi)] at g1
      rw [f3 i (hMv i hi)] at g3
      exact ⟨i, hi, m, d, g1, g2, g3⟩
    have ap : ∀ a ∈ Gs, ¬ ∃ i ∈ M, ∃ m d, E3[i]? = some (some (m, d)) ∧ m.w = true ∧ a ∈ Fs3 i := fun a ha h => by
      obtain ⟨i, hi, m, d, g1, g2, g3⟩ := wr h
      rcases h3 a ha with z | ⟨s, hs, ⟨m', d', z1⟩, z2⟩ | z
      · exact (I.rel.nd i m d g1 g2).2.1 a g3 (hF a z)
      · obtain ⟨d2, z3⟩ := (I.stp.md s).1 m' d' z1
        exact (I.rel.nd i m d g1 g2).2.2 s m' d2 (fun e => hSs s hs (by rw [e]; exact hi)) z3 a g3 (by rw [I.stp.fs s (hSs s hs)]; exact z2)
      · exact z.2 i ⟨m, d, g1⟩ g3
    have apP : ¬ ∃ i ∈ M, ∃ m d, E3[i]? = some (some (m, d)) ∧ m.w = true ∧ P ∈ Fs3 i := fun h => by
      obtain ⟨i, hi, m, d, g1, g2, g3⟩ := wr h
      exact I.nP i ⟨m, d, g1⟩ g3
    have tr : ∀ a ∈ Gs, ∃ o, Hc a = some o := fun a ha => let ⟨o, eo, _⟩ := RdsL.trk _ _ _ h2 a ha; ⟨o, eo⟩
    refine ⟨s4.chg.keep (c.keep h1 rfl fun z => z) rfl apP, hPG, RdsL.chg s4.chg _ _ _ ap (RdsL.chg c _ _ _ (fun _ _ z => z) h2), fun a ha => ?_, fun ho => ⟨(h4 ho).1, fun a ha => ?_⟩⟩
    · obtain ⟨o, eo⟩ := tr a ha
      rcases h3 a ha with z | z | z
      · exact .inl z
      · exact .inr (.inl z)
      · exact .inr (.inr (Loose.later hW eo c b3 s4 z))
    · obtain ⟨o, eo⟩ := tr a ha
      exact Loose.later hW eo c b3 s4 ((h4 ho).2 a ha)
/-- behind a turn that adds an item -/
theorem LcI.add {ke : Kind} {d : D} {v : V} {F5 : List Addr} {H5 : Hp} {E5 : Env} {Fs5 : Nat → List Addr} (hke : ∀ s ∈ ke.S, s ∉ M) (hFP : P ∉ F) (hb : Hb P = none) (h0 : C.H0 P = none) (hT : ¬ C.T P) (hSs : Ss = ke.S.filter fun s => !vs.contains s) (hown : own = true → ke = .own)
    (I : LcI G C σ M Hb Ew Fs1 P F Ss own ys H5 (wipeE E5 vs) (fun i => if i ∈ vs then Fs1 i else Fs5 i) us Gs) (c4 : ∀ a, H4 a = none → Hb a = none) (p4 : ∃ o, H4 P = some o)
    (pG : ∀ a ∈ Gs, ∃ o, H4 a = some o)
    (vF : ∀ s ∈ vs, Asg E5 s → ∀ a ∈ Fs5 s, a ∈ F) (rd : Rds G H5 d v F5) (ko : KOk σ3 H4 E5 Fs5 ke d v F5) :
    LcI G C σ M Hb Ew Fs1 P F Ss own (ys ++ [d]) (upd H5 P (.lst (us ++ [v]))) (wipeE E5 vs) (fun i => if i ∈ vs then Fs1 i else Fs5 i) (us ++ [v]) (Gs ++ F5) := by
  obtain ⟨hus, PG, h2, h3, h4⟩ := I.acc
  have cP : Chg (fun q => q = P) H5 (upd H5 P (.lst (us ++ [v]))) := Chg.put hus rfl rfl
  -- where the new item's parts stand
  have sl : ∀ {s a}, s ∈ ke.S → s ∉ vs → Asg E5 s → a ∈ Fs5 s → (Asg (wipeE E5 vs) s ∧ Asg Ew s ∧ a ∈ Fs1 s) := fun {s a} hs hv g1 g2 => by
    have g1' : Asg (wipeE E5 vs) s := by
      obtain ⟨m, d', e⟩ := g1
      exact ⟨m, d', by rw [wipeE_out hv]; exact e⟩
    have e := I.stp.fs s (hke s hs)
    have e : (if s ∈ vs then Fs1 s else Fs5 s) = Fs1 s := e
    rw [if_neg hv] at e
    exact ⟨g1', I.stp.asg.mp g1', by rw [← e]; exact g2⟩
  have lo : ∀ {a}, Loose H4 E5 Fs5 a → Loose Hb (wipeE E5 vs) (fun i => if i ∈ vs then Fs1 i else Fs5 i) a := fun {a} g => ⟨c4 a g.1, fun i ⟨m, d', e⟩ hm => by
    obtain ⟨e1, hv⟩ := wipeE_some e
    have hm : a ∈ (if i ∈ vs then Fs1 i else Fs5 i) := hm
    rw [if_neg hv] at hm
    exact g.2 i ⟨m, d', e1⟩ hm⟩
  have p5 : ∀ a ∈ F5, a ∈ F ∨ (∃ s ∈ Ss, Asg Ew s ∧ a ∈ Fs1 s) ∨ Loose Hb (wipeE E5 vs) (fun i => if i ∈ vs then Fs1 i else Fs5 i) a := fun a ha => by
    rcases ko.vw a ha with ⟨s, hs, g1, g2⟩ | g
    · by_cases hv : s ∈ vs
      · exact .inl (vF s hv g1 a g2)
      · obtain ⟨_, g3, g4⟩ := sl hs hv g1 g2
        exact .inr (.inl ⟨s, by rw [hSs]; exact List.mem_filter.mpr ⟨hs, by simpa using hv⟩, g3, g4⟩)
    · exact .inr (.inr (lo g))
  have PF5 : P ∉ F5 := fun hp => by
    rcases ko.vw P hp with ⟨s, hs, g1, g2⟩ | g
    · by_cases hv : s ∈ vs
      · exact hFP (vF s hv g1 P g2)
      · obtain ⟨g3, _, _⟩ := sl hs hv g1 g2
        exact I.nP s g3 (show P ∈ (if s ∈ vs then Fs1 s else Fs5 s) by rw [if_neg hv]; exact g2)
    · obtain ⟨o, eo⟩ := p4
      rw [g.1] at eo
      cases eo
  refine ⟨I.rel.chgL cP I.nP h0 hT, ?_, I.nP, upd_same, fun hp => (List.mem_append.mp hp).elim PG PF5, ?_, fun a ha => ?_, fun ho => ?_⟩
  · have st := I.stp
    refine ⟨fun q o e => ?_, st.fs, st.gr, st.env, st.md⟩
    by_cases hq : q = P
    · subst hq
      rw [hb] at e
      cases e
    · rcases st.chg q o e with z | ⟨z1, ps, z2, z3⟩ | ⟨z1, z2, o', z3, z4⟩
      · exact .inl (by rw [upd_ne hq]; exact z)
      · exact .inr (.inl ⟨z1, ps, by rw [upd_ne hq]; exact z2, z3⟩)
      · exact .inr (.inr ⟨z1, z2, o', by rw [upd_ne hq]; exact z3, z4⟩)
  · refine rdsL_app (RdsL.chg cP _ _ _ (fun a ha z => PG (by rw [← z]; exact ha)) h2) (rdsL_cons.mpr ⟨v, [], F5, [], rfl, by simp, Rds.chg cP _ _ _ (fun a ha z => PF5 (by rw [← z]; exact ha)) rd, rdsL_nil.mpr ⟨rfl, rfl⟩⟩)
  · rcases List.mem_append.mp ha with ha | ha
    · exact h3 a ha
    · exact p5 a ha
  · have hk := hown ho
    subst hk
    obtain ⟨g1, g2⟩ := h4 ho
    have lo5 : ∀ a ∈ F5, Loose H4 E5 Fs5 a := fun a ha => by
      rcases ko.2 a ha with ⟨_, z, _⟩ | g
      · cases z
      · exact g
    refine ⟨?_, fun a ha => (List.mem_append.mp ha).elim (g2 a) fun z => lo (lo5 a z)⟩
    rw [List.nodup_append]
    refine ⟨g1, ko.1, fun a ha b' hb' e => ?_⟩
    subst e
    obtain ⟨o, eo⟩ := pG a ha
    rw [(lo5 a hb').1] at eo
    cases eo
end
end
end VL
set_option maxHeartbeats 4000000
namespace VL
noncomputable section
open PySem PySem.Spec PyProof.Rows L2
open GxR (TabB TabG Tabbed)
abbrev VTs (G : Gb) (X : Cx) (ifs : List Expr) (M : List Nat) (t : TF) : Prop := PTs X ifs (tVT G M t)
def tYesF : TF := fun E => some (true, E)
section
variable {G : Gb} {X : Cx} {e : Expr} {M M' : List Nat} {k : Kind} {f : EF} {t : TF}
theorem vts_nil : VTs G X [] [] tYesF := ⟨fun pins s σ H Q I ⟨C, E, Fs, R, b, E', e, q⟩ => pts_nil.run pins s σ H Q I (by cases e; exact q H Fs R Stp.refl)⟩
theorem vts_one (h : VT G X e M t) : VTs G X [e] M t := pts_one h
theorem ve_mono (h : VE G X e M k f) (hm : (M.all fun i => M'.contains i) = true := by rfl) : VE G X e M' k f := PE.imp h fun σ H Q ⟨C, E, Fs, R, d, E', e, q⟩ =>
  ⟨C, E, Fs, R, d, E', e, fun v H' Fs' F R' s' r' k' => q v H' Fs' F R' (s'.mono fun i hi => by simpa using List.all_eq_true.mp hm i hi) r' k'⟩
theorem vts_mono {es : List Expr} (h : VTs G X es M t) (hm : (M.all fun i => M'.contains i) = true := by rfl) : VTs G X es M' t := ⟨fun pins s σ H Q I ⟨C, E, Fs, R, b, E', e, q⟩ => h.run pins s σ H Q I
  ⟨C, E, Fs, R, b, E', e, fun H' Fs' R' s' => q H' Fs' R' (s'.mono fun i hi => by simpa using List.all_eq_true.mp hm i hi)⟩⟩
end
/-- what a comprehension wants: nothing that it walks or takes its items of is written in it -/
def lcOk (k ke : Kind) (M W vs : List Nat) : Bool := M.all (fun i => !vs.contains i) && W.all (fun i => vs.contains i) && k.safe M && ke.safe M
section
variable {G : Gb} {C C' : Ctx} {H H1 Hc : Hp} {σ : L2.St} {E E1 Ec : Env} {Fs Fs1 Fsc : Nat → List Addr} {M M0 vs : List Nat} {P : Addr} {F : List Addr} {k ke : Kind} {ys : List D} {Q : VK} {us : List V} {Gs : List Addr}
theorem lc_end (hM : ∀ i ∈ M, i ∉ vs ∧ i ∉ k.S) (hke : ∀ s ∈ ke.S, s ∉ M) (hC0 : C'.H0 = C.H0) (hCZ : C'.Z = C.Z) (hCT : ∀ a, C.T a → C'.T a) (hCi : C'.iov = C.iov) (hP1 : H1 P = none) (R1 : Rel G C H1 σ E1 Fs1) (s1 : Stp M0 H H1 E E1 Fs Fs1) (tr : ∀ a ∈ F, ∃ o, H1 a = some o) (vw : Vw H E1 Fs1 k.S F)
    (I : LcI G C' (L2.wipe σ vs) M H1 (wipeE (freeze E1 k.S) vs) Fs1 P F (ke.S.filter fun s => !vs.contains s) (decide (ke = .own)) ys Hc Ec Fsc us Gs)
    (q : ∀ v H' Fs' F, Rel G C H' σ (setM E1 Ec M) Fs' → Stp (M0 ++ M) H H' E (setM E1 Ec M) Fs Fs' → Rds G H' (.lst ys) v F → KOk σ H (setM E1 Ec M) Fs' (kLc k ke vs) (.lst ys) v F → Q v H') : Q (.ref P) Hc := by
  obtain ⟨a1, PG, a2, a3, a4⟩ := I.acc
  have ew : ∀ i ∈ M, (wipeE (freeze E1 k.S) vs)[i]? = E1[i]? := fun i hi => by rw [wipeE_out (hM i hi).1, freeze_out (hM i hi).2]
  have ewA : ∀ {i}, Asg (wipeE (freeze E1 k.S) vs) i → Asg E1 i := fun {i} ⟨m, d, e⟩ => by
    obtain ⟨e1, _⟩ := wipeE_some e
    exact asg_frz.mp ⟨m, d, e1⟩
  have wA : ∀ {i}, i ∉ vs → Asg E1 i → Asg (wipeE (freeze E1 k.S) vs) i := fun {i} hv h => by
    obtain ⟨m, d, e⟩ := asg_frz (S := k.S).mpr h
    exact ⟨m, d, by rw [wipeE_out hv]; exact e⟩
  have tr1 : ∀ {i a}, Asg E1 i → a ∈ Fs1 i → ∃ o, H1 a = some o := fun {i a} ⟨m, d, e⟩ ha => by
    obtain ⟨v, _, r, _⟩ := R1.rd i m d e
    obtain ⟨o, eo, _⟩ := Rds.trk d v _ r a ha
    exact ⟨o, eo⟩
  -- the slots behind it
  have ein : ∀ {i m d'}, i ∈ M → (setM E1 Ec M)[i]? = some (some (m, d')) → Ec[i]? = some (some (m, d')) ∧ ∃ d, E1[i]? = some (some (m, d)) := fun {i m d'} hi e => by
    have hl : i < E1.length := by
      have := (List.getElem?_eq_some_iff.mp e).1
      rw [setM_len] at this
      exact this
    rw [setM_in hi hl] at e
    have e2 : Ec[i]? = some (some (m, d')) := by
      cases h : Ec[i]? with
      | none => rw [h] at e; cases e
      | some o =>
        rw [h] at e
        exact e
    obtain ⟨d, e3⟩ := (I.stp.md i).2 m d' e2
    exact ⟨e2, d, by rw [← ew i hi]; exact e3⟩
  have ein2 : ∀ {i m d}, i ∈ M → E1[i]? = some (some (m, d)) → ∃ d', (setM E1 Ec M)[i]? = some (some (m, d')) := fun {i m d} hi e => by
    obtain ⟨d', e2⟩ := (I.stp.md i).1 m d (by rw [ew i hi]; exact e)
    exact ⟨d', by rw [setM_in hi (List.getElem?_eq_some_iff.mp e).1, e2]; rfl⟩
  have asgE : ∀ {i}, Asg (setM E1 Ec M) i ↔ Asg E1 i := fun {i} => by
    by_cases hi : i ∈ M
    · exact ⟨fun ⟨m, d, e⟩ => let ⟨_, d', e'⟩ := ein hi e; ⟨m, d', e'⟩, fun ⟨m, d, e⟩ => let ⟨d', e'⟩ := ein2 hi e; ⟨m, d', e'⟩⟩
    · unfold Asg
      rw [setM_out hi]
  have wr : ∀ q, (∃ i ∈ M, ∃ m d, (wipeE (freeze E1 k.S) vs)[i]? = some (some (m, d)) ∧ m.w = true ∧ q ∈ Fs1 i) → ∃ i ∈ M, ∃ m d, E1[i]? = some (some (m, d)) ∧ m.w = true ∧ q ∈ Fs1 i := fun q ⟨i, hi, m, d, h1, h2, h3⟩ => ⟨i, hi, m, d, by rw [← ew i hi]; exact h1, h2, h3⟩
  let Fsf : Nat → List Addr := fun i => if i ∈ M then Fsc i else Fs1 i
  have fin : ∀ {i}, i ∈ M → Fsf i = Fsc i := fun {i} hi => if_pos hi
  have fout : ∀ {i}, i ∉ M → Fsf i = Fs1 i := fun {i} hi => if_neg hi
  have R2 : Rel G C Hc σ (setM E1 Ec M) Fsf := by
    refine ⟨by rw [setM_len]; exact R1.len, fun i m d e => ?_, fun i m d e hw => ?_, fun i m d e => ?_, ?_, ?_, R1.pt, I.rel.tb⟩
    · by_cases hi : i ∈ M
      · obtain ⟨e2, d1, e1⟩ := ein hi e
        obtain ⟨v, h1, h2, h3⟩ := I.rel.rd i m d e2
        rw [wipe_out (hM i hi).1] at h1
        exact ⟨v, h1, by rw [fin hi]; exact h2, fun z => by rw [h3 z, hCi]⟩
      · rw [setM_out hi] at e
        obtain ⟨v, h1, h2, h3⟩ := R1.rd i m d e
        refine ⟨v, h1, ?_, h3⟩
        rw [fout hi]
        refine Rds.chg I.stp.chg _ _ _ (fun a ha h => ?_) h2
        obtain ⟨j, hj, m', d', g1, g2, g3⟩ := wr a h
        exact (R1.nd j m' d' g1 g2).2.2 i m d (fun z => hi (by rw [z]; exact hj)) e a g3 ha
    · by_cases hi : i ∈ M
      · obtain ⟨e2, d1, e1⟩ := ein hi e
        obtain ⟨h1, h2, h3⟩ := I.rel.nd i m d e2 hw
        rw [fin hi]
        refine ⟨h1, fun a ha hT => h2 a ha (hCT a hT), fun j m' d' hj ej a ha hb => ?_⟩
        by_cases hj2 : j ∈ M
        · obtain ⟨e3, _⟩ := ein hj2 ej
          rw [fin hj2] at hb
          exact h3 j m' d' hj e3 a ha hb
        · rw [setM_out hj2] at ej
          rw [fout hj2] at hb
          rcases I.stp.gr i a ha with z | z
          · exact (R1.nd i m d1 e1 hw).2.2 j m' d' hj ej a z hb
          · obtain ⟨o, eo⟩ := tr1 ⟨m', d', ej⟩ hb
            rw [z] at eo
            cases eo
      · rw [setM_out hi] at e
        obtain ⟨h1, h2, h3⟩ := R1.nd i m d e hw
        rw [fout hi]
        refine ⟨h1, h2, fun j m' d' hj ej a ha hb => ?_⟩
        by_cases hj2 : j ∈ M
        · obtain ⟨e3, d3, e4⟩ := ein hj2 ej
          rw [fin hj2] at hb
          rcases I.stp.gr j a hb with z | z
          · exact h3 j m' d3 hj e4 a ha z
          · obtain ⟨o, eo⟩ := tr1 ⟨m, d, e⟩ ha
            rw [z] at eo
            cases eo
        · rw [setM_out hj2] at ej
          rw [fout hj2] at hb
          exact h3 j m' d' hj ej a ha hb
    · by_cases hi : i ∈ M
      · obtain ⟨e2, d1, e1⟩ := ein hi e
        rw [fin hi, ← hC0, ← hCZ]
        exact I.rel.nw i m d e2
      · rw [setM_out hi] at e
        rw [fout hi]
        exact R1.nw i m d e
    · rw [← hC0, ← hCZ]
      exact I.rel.fr
    · refine (R1.pr.trans I.stp.chg).mono fun q o e h => ?_
      rcases h with h | h
      · exact h
      · obtain ⟨j, hj, m', d', g1, g2, g3⟩ := wr q h
        exact (R1.nd j m' d' g1 g2).2.1 q g3
  have s2 : Stp M H1 Hc E1 (setM E1 Ec M) Fs1 Fsf := by
    refine ⟨I.stp.chg.mono fun q o _ h => wr q h, fun i hi => fout hi, fun i a ha => ?_, fun i hi => setM_out hi, fun i => ?_⟩
    · by_cases hi : i ∈ M
      · rw [fin hi] at ha
        exact I.stp.gr i a ha
      · rw [fout hi] at ha
        exact .inl ha
    · by_cases hi : i ∈ M
      · exact ⟨fun m d e => ein2 hi e, fun m d e => (ein hi e).2⟩
      · rw [setM_out hi]
        exact ⟨fun m d e => ⟨d, e⟩, fun m d e => ⟨d, e⟩⟩
  have lo : ∀ {a}, H1 a = none → (∀ i ∈ M, Asg Ec i → a ∉ Fsc i) → Loose H (setM E1 Ec M) Fsf a := fun {a} n h => ⟨s1.chg.back n, fun i hi hm => by
    by_cases hM' : i ∈ M
    · rw [fin hM'] at hm
      obtain ⟨m, d, e⟩ := hi
      exact h i hM' ⟨m, d, (ein hM' e).1⟩ hm
    · rw [fout hM'] at hm
      obtain ⟨o, eo⟩ := tr1 (asgE.mp hi) hm
      rw [n] at eo
      cases eo⟩
  have loP : Loose H (setM E1 Ec M) Fsf P := lo hP1 fun i _ hi => I.nP i hi
  refine q (.ref P) Hc Fsf (P :: Gs) R2 (s1.trans s2) (rds_lst.mpr ⟨P, us, Gs, rfl, a1, a2, rfl⟩) ?_
  unfold kLc
  by_cases hk : ke = .own
  · rw [if_pos hk]
    obtain ⟨g1, g2⟩ := a4 (decide_eq_true hk)
    refine ⟨List.nodup_cons.mpr ⟨PG, g1⟩, fun a ha => .inr ?_⟩
    rcases List.mem_cons.mp ha with rfl | ha
    · exact loP
    · exact lo (g2 a ha).1 fun i _ hi => (g2 a ha).2 i hi
  · rw [if_neg hk]
    refine ⟨fun a ha => ?_, fun a r _ e => by cases e; exact loP⟩
    rcases List.mem_cons.mp ha with rfl | ha
    · exact .inr loP
    · have kSM : ∀ s ∈ k.S, s ∉ M := fun s hs hm => (hM s hm).2 hs
      rcases a3 a ha with z | ⟨s, hs, z1, z2⟩ | z
      · rcases vw a z with ⟨s, hs, g1, g2⟩ | g
        · exact .inl ⟨s, List.mem_append_left _ hs, asgE.mpr g1, by rw [fout (kSM s hs)]; exact g2⟩
        · refine .inr ⟨g.1, fun i hi hm => ?_⟩
          by_cases hM' : i ∈ M
          · rw [fin hM'] at hm
            rcases I.stp.gr i a hm with y | y
            · exact g.2 i (asgE.mp hi) y
            · obtain ⟨o, eo⟩ := tr a z
              rw [y] at eo
              cases eo
          · rw [fout hM'] at hm
            exact g.2 i (asgE.mp hi) hm
      · have hs' := (List.mem_filter.mp hs).1
        exact .inl ⟨s, List.mem_append_right _ hs, asgE.mpr (ewA z1), by rw [fout (hke s hs')]; exact z2⟩
      · exact .inr (lo z.1 fun i _ hi => z.2 i hi)
end
section
variable {G : Gb} {X : Cx}
theorem lc_of {M M0 W vs : List Nat} {k ke : Kind} {src : IF} {g : Bool → D → Env → Option Env} {t : TF} {f : EF} {σ : L2.St} {H : Hp} {Q : VK} (sd : lcOk k ke M W vs = true) (h : tV G (M0 ++ M) (kLc k ke vs) (eLc k src g t f vs M) σ H Q) :
    tLc (tVI G M0 k src) (fun v σ H Q => ∃ b, tVG G (.pr b) W (g b) v σ H Q) (tVT G M t) (tV G M ke f) vs σ H Q := by
  obtain ⟨C, E, Fs, R, d, E', e, q⟩ := h
  unfold lcOk at sd
  simp only [Bool.and_eq_true] at sd
  obtain ⟨⟨⟨d1, d2⟩, d3⟩, d4⟩ := sd
  have hMv : ∀ i ∈ M, i ∉ vs := fun i hi => by simpa using List.all_eq_true.mp d1 i hi
  have hW : ∀ i ∈ W, i ∈ vs := fun i hi => by simpa using List.all_eq_true.mp d2 i hi
  have hkM : ∀ i ∈ M, i ∉ k.S := fun i hi hs => Kind.safe_of d3 i hs hi
  have hke := Kind.safe_of d4
  unfold eLc at e
  split at e
  · rename_i ds E1 e1
    split at e
    · rename_i ys E2 e2
      split at e
      · rename_i hlen
        replace hlen := sl_iff.mp hlen
        cases e
        refine ⟨C, E, Fs, R, ds, E1, e1, fun J H1 Fs1 F R1 s1 it tr vw P hP => ?_⟩
        have nwF := new_of R1 R.hn vw
        generalize newAll E1 k.S = bb at e2 nwF
        have trF : ∀ a ∈ F, ∃ o, H1 a = some o := fun a ha => let ⟨o, eo, _⟩ := tr a ha; ⟨o, eo⟩
        have PF : P ∉ F := fun hp => by
          obtain ⟨o, eo⟩ := trF P hp
          rw [hP] at eo
          cases eo
        have hPn := R1.hn P hP
        have RL := ((R1.lock R.hn tr vw).chg (Chg.new (p := P) (u := .lst []) hP)).wipe vs
        have EwN : ∀ i ∈ vs, i < (wipeE (freeze E1 k.S) vs).length → (wipeE (freeze E1 k.S) vs)[i]? = some none := fun i hi hl => wipeE_in hi (by rw [wipeE_len] at hl; exact hl)
        have cF : ∀ {Hc Ec Fsc}, Rel G { C with T := fun a => C.T a ∨ a ∈ F, HT := H1 } Hc (L2.wipe σ vs) Ec Fsc → Chg (fun a => a ∉ F) H1 Hc := fun r => r.pr.mono fun q o _ h hF => h (.inr hF)
        refine ⟨fun i m Hc => m = ds.length - i ∧ i ≤ ds.length ∧ ∃ Ec Fsc ysd rest us Gs, LcI G { C with T := fun a => C.T a ∨ a ∈ F, HT := H1 } (L2.wipe σ vs) M H1 (wipeE (freeze E1 k.S) vs) Fs1 P F (ke.S.filter fun s => !vs.contains s) (decide (ke = .own)) ysd Hc Ec Fsc us Gs ∧
          lcL (g bb) t f vs (ds.drop i) Ec = some (rest, E2) ∧ ys = ysd ++ rest ∧ ysd.length ≤ i, ⟨ds.length, by simp, Nat.zero_le _, _, Fs1, [], ys, [], [], ⟨RL, Stp.of (Chg.new hP), fun i hi hm => ?_, upd_same, (by simp), rdsL_nil.mpr ⟨rfl, rfl⟩, fun a ha => (by cases ha), fun _ => ⟨List.nodup_nil, fun a ha => (by cases ha)⟩⟩, e2, rfl, Nat.zero_le _⟩, ?_⟩
        · obtain ⟨m, d, e⟩ := hi
          obtain ⟨v, _, r, _⟩ := RL.rd i m d e
          obtain ⟨m0, d0, e0⟩ := asg_frz.mp ⟨m, d, (wipeE_some e).1⟩
          obtain ⟨v0, _, r0, _⟩ := R1.rd i m0 d0 e0
          obtain ⟨o, eo, _⟩ := Rds.trk _ _ _ r0 P hm
          rw [hP] at eo
          cases eo
        · rintro i m Hc ⟨rfl, hi', Ec, Fsc, ysd, rest, us, Gs, I, e3, e4, hyl⟩
          have c2 := cF I.rel
          by_cases hlt : i < ds.length
          · refine .inr ⟨it.go Hc i c2 hlt, fun Hn => i < ds.length ∧ ∃ Ec Fsc ysd rest us Gs, LcI G { C with T := fun a => C.T a ∨ a ∈ F, HT := H1 } (L2.wipe σ vs) M H1 (wipeE (freeze E1 k.S) vs) Fs1 P F (ke.S.filter fun s => !vs.contains s) (decide (ke = .own)) ysd Hn Ec Fsc us Gs ∧
              lcL (g bb) t f vs (ds.drop (i + 1)) Ec = some (rest, E2) ∧ ys = ysd ++ rest ∧ ysd.length ≤ i + 1, fun Hn h => ⟨ds.length - (i + 1), by omega, rfl, h.1, h.2⟩, fun y H2 hy => ?_⟩
            obtain ⟨c3, dd, A, ed, rdA, hA⟩ := it.yl Hc i y H2 c2 hlt hy
            have ed' : ds.drop i = dd :: ds.drop (i + 1) := by
              rw [List.drop_eq_getElem_cons hlt]
              rw [List.getElem?_eq_getElem hlt] at ed
              cases ed
              rfl
            rw [ed'] at e3
            unfold lcL at e3
            have Rc := I.rel.chg c3
            have lEc : Ec.length = (wipeE (freeze E1 k.S) vs).length := by
              have h1 := I.rel.len
              have h2 := RL.len
              omega
            cases eg : g bb dd Ec with
            | none => rw [eg] at e3; cases e3
            | some E3 =>
              rw [eg] at e3
              dsimp only at e3
              refine ⟨bb, _, Ec, Fsc, H2, A, dd, Rc, Rc.hn, rdA, ⟨fun a ha => .inr (hA a ha), fun z a ha => nwF z a (hA a ha)⟩, E3, eg, fun σ3 Fs3 R3 b3 => ⟨wipe_eq b3.len b3.sg hW, ?_⟩⟩
              have hσ : L2.wipe σ3 vs = L2.wipe σ vs := wipe_eq b3.len b3.sg hW
              cases et : t E3 with
              | none => rw [et] at e3; cases e3
              | some pt =>
                obtain ⟨tb, E4⟩ := pt
                rw [et] at e3
                refine ⟨_, E3, Fs3, R3, tb, E4, et, fun H4 Fs4 R4 s4 => ?_⟩
                cases tb with
                | false =>
                  dsimp only at e3
                  refine ite_ff ⟨hlt, _, _, ysd, rest, us, Gs, I.skip hMv hW EwN (fun s hs => hke s (List.mem_filter.mp hs).1) (fun a ha => Or.inr ha) lEc c3 b3 s4 R3 R4 hσ, e3, e4, by omega⟩
                | true =>
                  dsimp only at e3
                  refine ite_tt ?_
                  cases ef : f E4 with
                  | none => rw [ef] at e3; cases e3
                  | some py =>
                    obtain ⟨yd, E5⟩ := py
                    rw [ef] at e3
                    dsimp only at e3
                    cases er : lcL (g bb) t f vs (ds.drop (i + 1)) (wipeE E5 vs) with
                    | none => rw [er] at e3; cases e3
                    | some pr =>
                      obtain ⟨ys', E6⟩ := pr
                      rw [er] at e3
                      cases e3
                      refine ⟨_, E4, Fs4, R4, yd, E5, ef, fun v5 H5 Fs5 F5 R5 s5 r5 k5 => ?_⟩
                      have s45 : Stp M H2 H5 E3 E5 Fs3 Fs5 := (s4.trans s5).mono fun i hi => by simpa using hi
                      have I5 := I.skip hMv hW EwN (fun s hs => hke s (List.mem_filter.mp hs).1) (fun a ha => Or.inr ha) lEc c3 b3 s45 R3 R5 hσ
                      obtain ⟨h1, PG, h2, h3, h4⟩ := I.acc
                      have wrP : ∀ {j}, j ∈ M → ∀ m d, E3[j]? = some (some (m, d)) → P ∉ Fs3 j := fun {j} hj m d ej hm => by
                        have hjv : j ∉ W := fun z => hMv j hj (hW j z)
                        rw [b3.fs j hjv] at hm
                        rw [b3.env bb rfl j hjv] at ej
                        exact I.nP j ⟨m, d, ej⟩ hm
                      have hP2 : H2 P = some (.lst us) := c3.keep h1 rfl fun z => z
                      have hP5 : H5 P = some (.lst us) := s45.chg.keep hP2 rfl fun ⟨j, hj, m, d, ej, _, hm⟩ => wrP hj m d ej hm
                      have hP4 : H4 P = some (.lst us) := s4.chg.keep hP2 rfl fun ⟨j, hj, m, d, ej, _, hm⟩ => wrP hj m d ej hm
                      have ll := rdsL_len h2
                      refine ⟨us, hP5, by omega, hlt, _, _, ysd ++ [yd], ys', _, _, I5.add (H4 := H4) hke PF hP hPn.1 (fun z => z.elim hPn.2 PF) rfl (fun h => of_decide_eq_true h) (fun a n => I.stp.chg.back (c3.back (s4.chg.back n))) ⟨_, hP4⟩ (fun a ha => ?_) (fun s hsv hsa a ha => ?_) r5 k5, er, by rw [e4]; simp, by simp; omega⟩
                      · obtain ⟨o, eo, _⟩ := RdsL.trk _ _ _ h2 a ha
                        obtain ⟨o2, eo2⟩ := c3.there eo
                        exact s4.chg.there eo2
                      · -- the turn's own names hold parts of what is walked
                        have hsM : s ∉ M := fun z => hMv s z hsv
                        rw [s45.fs s hsM] at ha
                        by_cases hsW : s ∈ W
                        · exact hA a (b3.inW s hsW a ha)
                        · have h5 := (s45.asg (i := s)).mp hsa
                          rw [b3.asg s hsW] at h5
                          have h6 := I.stp.asg.mp h5
                          obtain ⟨m, d, e'⟩ := h6
                          exact absurd hsv (wipeE_some e').2
          · have ei : ds.drop i = [] := List.drop_eq_nil_of_le (by omega)
            rw [ei] at e3
            cases e3
            rw [List.append_nil] at e4
            subst e4
            exact .inl ⟨it.st Hc i c2 (by omega), lc_end (C := C) (C' := { C with T := fun a => C.T a ∨ a ∈ F, HT := H1 }) (fun i hi => ⟨hMv i hi, hkM i hi⟩) hke rfl rfl (fun a h => Or.inl h) rfl hP R1 s1 trF vw I q⟩
      · cases e
    · cases e
  · cases e
variable {elt tg iter : Expr} {ifs : List Expr} {scope : Scope} {own : List (Str × Nat)} {pos : Pos} {M M0 W : List Nat} {k ke : Kind} {src : IF} {g : Bool → D → Env → Option Env} {t : TF} {f : EF}
theorem ve_lc (x : XOk G X) (hN : X.N.Nodup) (hi : VI G X tg iter M0 k src) (ok : BlkOk X.N X.env.scope scope own)
    (hg : ∀ (b : Bool) (s : Shared) (H : Hp) (C : Addr) (cl : List (Str × Addr)) (fp : List Addr), VG G (X.blk s H scope (compEnvC scope cl C X.env) fp) tg (.pr b) W (g b))
    (ht : ∀ (s : Shared) (H : Hp) (C : Addr) (cl : List (Str × Addr)) (fp : List Addr), VTs G (X.blk s H scope (compEnvC scope cl C X.env) fp) ifs M t)
    (he : ∀ (s : Shared) (H : Hp) (C : Addr) (cl : List (Str × Addr)) (fp : List Addr), VE G (X.blk s H scope (compEnvC scope cl C X.env) fp) elt M ke f)
    (sd : lcOk k ke M W (own.map (·.2)) = true := by rfl) (hs : ∀ x, foldedSetIterable iter X.env x = pure x := by intro _; rfl) :
    VE G X (.ListComp elt [⟨tg, iter, ifs, 0⟩] scope pos) (M0 ++ M) (kLc k ke (own.map (·.2))) (eLc k src g t f (own.map (·.2)) M) :=
  PE.imp (pe_lc x.calm hN hi ok (fun s H C cl fp => pg_ex fun b => hg b s H C cl fp) ht he hs) fun σ H Q h => lc_of sd h
/-- name = [..], the name a local, on one row -/
theorem vs_setLc {ro : Bool} {i : Nat} {y : Str} {py spos : Pos} (x : XOk G X) (hN : X.N.Nodup) (hy : X.N[i]? = some y) (hyl : X.env.scope.names.lookup y = some .local)
    (hsw : swapsWith (.ListComp elt [⟨tg, iter, ifs, 0⟩] scope pos) (some (.Name y py)) spos.line X.env = pure true) (hi : VI G X tg iter M0 k src) (ok : BlkOk X.N X.env.scope scope own)
    (hg : ∀ (b : Bool) (s : Shared) (H : Hp) (C : Addr) (cl : List (Str × Addr)) (fp : List Addr), VG G (X.blk s H scope (compEnvC scope cl C X.env) fp) tg (.pr b) W (g b))
    (ht : ∀ (s : Shared) (H : Hp) (C : Addr) (cl : List (Str × Addr)) (fp : List Addr), VTs G (X.blk s H scope (compEnvC scope cl C X.env) fp) ifs M t)
    (he : ∀ (s : Shared) (H : Hp) (C : Addr) (cl : List (Str × Addr)) (fp : List Addr), VE G (X.blk s H scope (compEnvC scope cl C X.env) fp) elt M ke f)
    (sd : lcOk k ke M W (own.map (·.2)) = true := by rfl) (hs : ∀ x, foldedSetIterable iter X.env x = pure x := by intro _; rfl) :
    VS G X ro (.Assign [.Name y py] (.ListComp elt [⟨tg, iter, ifs, 0⟩] scope pos) spos) (sSet i (kLc k ke (own.map (·.2))) (eLc k src g t f (own.map (·.2)) M)) :=
  PS.imp (ps_setLc x.calm hN hy hyl hsw hi ok (fun s H C cl fp => pg_ex fun b => hg b s H C cl fp) ht he hs) fun N σ H h => lc_of sd (asg_set (M := M0 ++ M) h)
end
end
end VL
set_option maxHeartbeats 4000000
namespace VL
noncomputable section
open PySem PySem.Spec PyProof.Rows L2
open GxR (TabB TabG Tabbed)
/-! ### a part of a slot, and its writing -/
/-- the part at the indices p -/
def getP : List Int → D → Option D
  | [], d => some d
  | i :: p, .lst ds => (atI ds i).bind (getP p)
  | i :: p, .tup ds => (atI ds i).bind (getP p)
  | _, _ => none
def setP : List Int → D → D → Option D
  | [], _, n => some n
  | i :: p, .lst ds, n => (ixN ds.length i).bind fun j => (ds[j]?).bind fun d1 => (setP p d1 n).map fun d2 => .lst (ds.set j d2)
  | i :: p, .tup ds, n => (ixN ds.length i).bind fun j => (ds[j]?).bind fun d1 => (setP p d1 n).map fun d2 => .tup (ds.set j d2)
  | _, _, _ => none
/-- sd at sv is the part of d at v, its own at A, what stands ahead of it and behind it at P, S -/
def Foc (G : Gb) (H : Hp) : List Int → D → V → List Addr → D → V → List Addr → List Addr → List Addr → Prop
  | [], d, v, F, sd, sv, P, A, S => sd = d ∧ sv = v ∧ P = [] ∧ S = [] ∧ A = F ∧ Rds G H d v F
  | i :: p, d, v, F, sd, sv, P, A, S => ∃ (a : Addr) (xs : List V) (ds : List D) (j : Nat) (d1 : D) (x1 : V) (A1 A2 A3 P' S' Q : List Addr), v = .ref a ∧ ((d = .lst ds ∧ H a = some (.lst xs) ∧ Q = [a]) ∨ (d = .tup ds ∧ SqT G.K H a xs ∧ Q = [])) ∧ ixN ds.length i = some j ∧ ds[j]? = some d1 ∧ xs[j]? = some x1 ∧
      RdsL G H (ds.take j) (xs.take j) A1 ∧ RdsL G H (ds.drop (j + 1)) (xs.drop (j + 1)) A3 ∧ Foc G H p d1 x1 A2 sd sv P' A S' ∧ F = Q ++ (A1 ++ (A2 ++ A3)) ∧ P = Q ++ (A1 ++ P') ∧ S = S' ++ A3
section
variable {G : Gb} {H H' : Hp}
theorem rdsL_split : ∀ {ds : List D} {vs : List V} {F : List Addr} {j : Nat} {d : D}, RdsL G H ds vs F → ds[j]? = some d → ∃ x A B C', vs[j]? = some x ∧ RdsL G H (ds.take j) (vs.take j) A ∧ Rds G H d x B ∧ RdsL G H (ds.drop (j + 1)) (vs.drop (j + 1)) C' ∧ F = A ++ (B ++ C')
  | [], _, _, j, d, h, e => by simp at e
  | d' :: ds, _, _, 0, d, h, e => by
    obtain ⟨x, r, A, B, rfl, rfl, h1, h2⟩ := rdsL_cons.mp h
    simp at e
    subst e
    exact ⟨x, [], A, B, rfl, rdsL_nil.mpr ⟨rfl, rfl⟩, h1, h2, rfl⟩
  | d' :: ds, _, _, j + 1, d, h, e => by
    obtain ⟨x, r, A, B, rfl, rfl, h1, h2⟩ := rdsL_cons.mp h
    obtain ⟨y, A', B', C', g1, g2, g3, g4, g5⟩ := rdsL_split h2 (show ds[j]? = some d by simpa using e)
    exact ⟨y, A ++ A', B', C', by simpa using g1, rdsL_cons.mpr ⟨x, _, A, A', rfl, rfl, h1, g2⟩, g3, g4, by rw [g5, List.append_assoc]⟩
theorem rdsL_join {ds : List D} {vs : List V} {A B C' : List Addr} {j : Nat} {d : D} {x : V} (hj : j < ds.length) (hl : vs.length = ds.length) (hx : vs[j]? = some x) (h1 : RdsL G H (ds.take j) (vs.take j) A) (h2 : Rds G H d x B) (h3 : RdsL G H (ds.drop (j + 1)) (vs.drop (j + 1)) C') : RdsL G H (ds.set j d) vs (A ++ (B ++ C')) := by
  have e1 : ds.set j d = ds.take j ++ d :: ds.drop (j + 1) := by
    rw [List.set_eq_take_append_cons_drop, if_pos hj]
  have e2 : vs = vs.take j ++ x :: vs.drop (j + 1) := by
    have hj' : j < vs.length := by omega
    rw [List.getElem?_eq_getElem hj'] at hx
    cases hx
    rw [List.getElem_cons_drop, List.take_append_drop]
  rw [e1]
  rw [e2]
  have e3 : (List.take j vs ++ x :: List.drop (j + 1) vs).take j = List.take j vs := by rw [← e2]
  exact rdsL_app h1 (rdsL_cons.mpr ⟨x, _, B, C', rfl, rfl, h2, h3⟩)
theorem foc_rds : ∀ {p : List Int} {d : D} {v : V} {F : List Addr} {sd : D} {sv : V} {P A S : List Addr}, Foc G H p d v F sd sv P A S → F = P ++ (A ++ S) ∧ Rds G H sd sv A
  | [], _, _, _, _, _, _, _, _, h => by
    obtain ⟨rfl, rfl, rfl, rfl, rfl, h⟩ := h
    exact ⟨by simp, h⟩
  | i :: p, _, _, _, _, _, _, _, _, h => by
    obtain ⟨a, xs, ds, j, d1, x1, A1, A2, A3, P', S', Q, rfl, h1, h2, h3, h4, h5, h6, h7, rfl, rfl, rfl⟩ := h
    obtain ⟨rfl, h8⟩ := foc_rds h7
    exact ⟨by simp [List.append_assoc], h8⟩
theorem foc_of : ∀ {p : List Int} {d : D} {v : V} {F : List Addr} {sd : D}, Rds G H d v F → getP p d = some sd → ∃ sv P A S, Foc G H p d v F sd sv P A S
  | [], d, v, F, sd, r, e => by
    cases e
    exact ⟨v, [], F, [], rfl, rfl, rfl, rfl, rfl, r⟩
  | i :: p, .lst ds, v, F, sd, r, e => by
    obtain ⟨a, xs, A, rfl, h1, h2, rfl⟩ := rds_lst.mp r
    have e : (atI ds i).bind (getP p) = some sd := e
    unfold atI at e
    cases h : ixN ds.length i with
    | none => rw [h] at e; cases e
    | some j =>
      rw [h] at e
      have e : (ds[j]?).bind (getP p) = some sd := e
      cases h3 : ds[j]? with
      | none => rw [h3] at e; cases e
      | some d1 =>
        rw [h3] at e
        obtain ⟨x1, A1, A2, A3, g1, g2, g3, g4, rfl⟩ := rdsL_split h2 h3
        obtain ⟨sv, P', A', S', g5⟩ := foc_of g3 (show getP p d1 = some sd from e)
        exact ⟨sv, _, A', _, a, xs, ds, j, d1, x1, A1, A2, A3, P', S', [a], rfl, .inl ⟨rfl, h1, rfl⟩, h, h3, g1, g2, g4, g5, rfl, rfl, rfl⟩
  | i :: p, .tup ds, v, F, sd, r, e => by
    obtain ⟨a, xs, rfl, h1, h2⟩ := rds_tup.mp r
    have e : (atI ds i).bind (getP p) = some sd := e
    unfold atI at e
    cases h : ixN ds.length i with
    | none => rw [h] at e; cases e
    | some j =>
      rw [h] at e
      have e : (ds[j]?).bind (getP p) = some sd := e
      cases h3 : ds[j]? with
      | none => rw [h3] at e; cases e
      | some d1 =>
        rw [h3] at e
        obtain ⟨x1, A1, A2, A3, g1, g2, g3, g4, rfl⟩ := rdsL_split h2 h3
        obtain ⟨sv, P', A', S', g5⟩ := foc_of g3 (show getP p d1 = some sd from e)
        exact ⟨sv, _, A', _, a, xs, ds, j, d1, x1, A1, A2, A3, P', S', [], rfl, .inr ⟨rfl, h1, rfl⟩, h, h3, g1, g2, g4, g5, rfl, rfl, rfl⟩
  | _ :: _, .non, _, _, _, _, e => by cases e
  | _ :: _, .bl _, _, _, _, _, e => by cases e
  | _ :: _, .int _, _, _, _, _, e => by cases e
  | _ :: _, .str _, _, _, _, _, e => by cases e
  | _ :: _, .dct _ _, _, _, _, _, e => by cases e
  | _ :: _, .obj _ _ _, _, _, _, _, e => by cases e
  | _ :: _, .scr _, _, _, _, _, e => by cases e
/-- one index more -/
theorem foc_ext {i : Int} : ∀ {p : List Int} {d : D} {v : V} {F : List Addr} {sd d1 : D} {sv : V} {P A S : List Addr}, Foc G H p d v F sd sv P A S → getP [i] sd = some d1 → ∃ x1 P' A' S', Foc G H (p ++ [i]) d v F d1 x1 P' A' S' ∧ ∃ a xs, sv = .ref a ∧ atI xs i = some x1 ∧ ((∃ ds, sd = .lst ds ∧ H a = some (.lst xs)) ∨ ∃ ds, sd = .tup ds ∧ SqT G.K H a xs)
  | [], d, v, F, sd, d1, sv, P, A, S, h, e => by
    obtain ⟨rfl, rfl, rfl, rfl, rfl, r⟩ := h
    obtain ⟨x1, P', A', S', h1⟩ := foc_of r e
    refine ⟨x1, P', A', S', h1, ?_⟩
    obtain ⟨a, xs, ds, j, d2, x2, A1, A2, A3, P2, S2, Q, rfl, g1, g2, g3, g4, g5, g6, g7, _, _, _⟩ := h1
    obtain ⟨rfl, rfl, _⟩ := g7
    have hl : xs.length = ds.length := by
      rcases g1 with ⟨rfl, g1, _⟩ | ⟨rfl, g1, _⟩
      · have z1 := rdsL_len g5
        have z2 := rdsL_len g6
        rw [List.length_take, List.length_take] at z1
        rw [List.length_drop, List.length_drop] at z2
        have z3 := (List.getElem?_eq_some_iff.mp g3).1
        have z4 := (List.getElem?_eq_some_iff.mp g4).1
        omega
      · have z1 := rdsL_len g5
        have z2 := rdsL_len g6
        rw [List.length_take, List.length_take] at z1
        rw [List.length_drop, List.length_drop] at z2
        have z3 := (List.getElem?_eq_some_iff.mp g3).1
        have z4 := (List.getElem?_eq_some_iff.mp g4).1
        omega
    refine ⟨a, xs, rfl, ?_, ?_⟩
    · unfold atI
      rw [hl, g2]
      exact g4
    · rcases g1 with ⟨rfl, g1, _⟩ | ⟨rfl, g1, _⟩
      · exact .inl ⟨ds, rfl, g1⟩
      · exact .inr ⟨ds, rfl, g1⟩
  | i' :: p, d, v, F, sd, d1, sv, P, A, S, h, e => by
    obtain ⟨a, xs, ds, j, d2, x2, A1, A2, A3, P2, S2, Q, rfl, g1, g2, g3, g4, g5, g6, g7, rfl, rfl, rfl⟩ := h
    obtain ⟨x1, P', A', S', h1, h2⟩ := foc_ext g7 e
    exact ⟨x1, _, A', _, ⟨a, xs, ds, j, d2, x2, A1, A2, A3, P', S', Q, rfl, g1, g2, g3, g4, g5, g6, h1, rfl, rfl, rfl⟩, h2⟩
theorem Foc.chg {M : Addr → Prop} (c : Chg M H H') : ∀ {p : List Int} {d : D} {v : V} {F : List Addr} {sd : D} {sv : V} {P A S : List Addr}, (∀ a ∈ F, ¬ M a) → Foc G H p d v F sd sv P A S → Foc G H' p d v F sd sv P A S
  | [], _, _, _, _, _, _, _, _, n, h => by
    obtain ⟨rfl, rfl, rfl, rfl, rfl, h⟩ := h
    exact ⟨rfl, rfl, rfl, rfl, rfl, Rds.chg c _ _ _ n h⟩
  | i :: p, _, _, _, _, _, _, _, _, n, h => by
    obtain ⟨a, xs, ds, j, d1, x1, A1, A2, A3, P', S', Q, rfl, h1, h2, h3, h4, h5, h6, h7, rfl, rfl, rfl⟩ := h
    refine ⟨a, xs, ds, j, d1, x1, A1, A2, A3, P', S', Q, rfl, ?_, h2, h3, h4, RdsL.chg c _ _ _ (fun b hb => n b (by simp [hb])) h5, RdsL.chg c _ _ _ (fun b hb => n b (by simp [hb])) h6, Foc.chg c (fun b hb => n b (by simp [hb])) h7, rfl, rfl, rfl⟩
    rcases h1 with ⟨h1, h8, h9⟩ | ⟨h1, h8, h9⟩
    · subst h9
      exact .inl ⟨h1, c.keep h8 rfl (n a (by simp)), rfl⟩
    · exact .inr ⟨h1, SqT.chg c h8, h9⟩
/-- the part is written -/
theorem foc_set : ∀ {p : List Int} {d : D} {v : V} {F : List Addr} {sd sd' d' : D} {sv : V} {P A S A' : List Addr}, Foc G H p d v F sd sv P A S → F.Nodup → Chg (fun a => a ∈ A) H H' → Rds G H' sd' sv A' → setP p d sd' = some d' → Rds G H' d' v (P ++ (A' ++ S))
  | [], _, _, _, _, _, _, _, _, _, _, _, h, _, _, r, e => by
    obtain ⟨rfl, rfl, rfl, rfl, rfl, h⟩ := h
    cases e
    simpa using r
  | i :: p, d, v, F, sd, sd', d', sv, P, A, S, A', h, nd, c, r, e => by
    obtain ⟨a, xs, ds, j, d1, x1, A1, A2, A3, P', S', Q, rfl, h1, h2, h3, h4, h5, h6, h7, rfl, rfl, rfl⟩ := h
    obtain ⟨eA, _⟩ := foc_rds h7
    have nd2 : A2.Nodup := by
      refine List.Sublist.nodup ?_ nd
      exact (List.sublist_append_left A2 A3).trans ((List.sublist_append_right A1 _).trans (List.sublist_append_right Q _))
    have hjl : j < ds.length := (List.getElem?_eq_some_iff.mp h3).1
    have hl : xs.length = ds.length := by
      have z1 := rdsL_len h5
      have z2 := rdsL_len h6
      rw [List.length_take, List.length_take] at z1
      rw [List.length_drop, List.length_drop] at z2
      have z4 := (List.getElem?_eq_some_iff.mp h4).1
      omega
    have inA2 : ∀ z ∈ A, z ∈ A2 := fun z hz => by rw [eA]; simp [hz]
    rw [List.nodup_append] at nd
    obtain ⟨_, nd3, ndQ⟩ := nd
    rw [List.nodup_append] at nd3
    obtain ⟨_, nd4, nd1⟩ := nd3
    rw [List.nodup_append] at nd4
    have r1 : RdsL G H' (ds.take j) (xs.take j) A1 := RdsL.chg c _ _ _ (fun z hz hA => nd1 z hz z (by simp [inA2 z hA]) rfl) h5
    have r3 : RdsL G H' (ds.drop (j + 1)) (xs.drop (j + 1)) A3 := RdsL.chg c _ _ _ (fun z hz hA => nd4.2.2 z (inA2 z hA) z hz rfl) h6
    have go : ∀ {d2}, setP p d1 sd' = some d2 → RdsL G H' (ds.set j d2) xs (A1 ++ ((P' ++ (A' ++ S')) ++ A3)) := fun {d2} e2 => rdsL_join hjl hl h4 r1 (foc_set h7 nd2 c r e2) r3
    rcases h1 with ⟨rfl, h8, rfl⟩ | ⟨rfl, h8, rfl⟩
    · have e : (ixN ds.length i).bind (fun j => (ds[j]?).bind fun d1 => (setP p d1 sd').map fun d2 => D.lst (ds.set j d2)) = some d' := e
      rw [h2] at e
      have e : (ds[j]?).bind (fun d1 => (setP p d1 sd').map fun d2 => D.lst (ds.set j d2)) = some d' := e
      rw [h3] at e
      have e : (setP p d1 sd').map (fun d2 => D.lst (ds.set j d2)) = some d' := e
      cases e2 : setP p d1 sd' with
      | none => rw [e2] at e; cases e
      | some d2 =>
        rw [e2] at e
        cases e
        refine rds_lst.mpr ⟨a, xs, _, rfl, c.keep h8 rfl (fun hA => ndQ a (by simp) a (by simp [inA2 a hA]) rfl), go e2, ?_⟩
        simp [List.append_assoc]
    · have e : (ixN ds.length i).bind (fun j => (ds[j]?).bind fun d1 => (setP p d1 sd').map fun d2 => D.tup (ds.set j d2)) = some d' := e
      rw [h2] at e
      have e : (ds[j]?).bind (fun d1 => (setP p d1 sd').map fun d2 => D.tup (ds.set j d2)) = some d' := e
      rw [h3] at e
      have e : (setP p d1 sd').map (fun d2 => D.tup (ds.set j d2)) = some d' := e
      cases e2 : setP p d1 sd' with
      | none => rw [e2] at e; cases e
      | some d2 =>
        rw [e2] at e
        cases e
        refine rds_tup.mpr ⟨a, xs, rfl, SqT.chg c h8, ?_⟩
        have z := go e2
        simpa [List.append_assoc] using z
end
end
end VL
set_option maxHeartbeats 4000000
namespace VL
noncomputable section
open PySem PySem.Spec PyProof.Rows L2
open GxR (TabB TabG Tabbed)
section
variable {G : Gb} {C : Ctx} {H H' : Hp} {σ : L2.St} {E : Env} {Fs : Nat → List Addr} {i : Nat} {m : Mode} {d d' : D} {v : V} {F' : List Addr}
/-- a slot's thing is written -/
theorem Rel.write (R : Rel G C H σ E Fs) (e : E[i]? = some (some (m, d))) (hw : m.w = true) (hv : σ[i]? = some (some v)) (c : Chg (fun a => a ∈ Fs i) H H') (rd : Rds G H' d' v F') (nd : F'.Nodup)
    (hF : ∀ a ∈ F', a ∈ Fs i ∨ (C.H0 a = none ∧ ¬ C.T a ∧ ∀ j, j ≠ i → Asg E j → a ∉ Fs j)) : Rel G C H' σ (E.set i (some (m, d'))) (FsSet Fs i F') := by
  have hi := (List.getElem?_eq_some_iff.mp e).1
  obtain ⟨n1, n2, n3⟩ := R.nd i m d e hw
  have gi : (E.set i (some (m, d')))[i]? = some (some (m, d')) := List.getElem?_set_self hi
  have gj : ∀ {j}, j ≠ i → (E.set i (some (m, d')))[j]? = E[j]? := fun {j} h => List.getElem?_set_ne (Ne.symm h)
  refine ⟨by rw [List.length_set]; exact R.len, fun j mj dj ej => ?_, fun j mj dj ej hwj => ?_, fun j mj dj ej => ?_, ?_, ?_, R.pt, fun T hT => c.tab (R.tb T hT)⟩
  · by_cases h : j = i
    · subst h
      rw [gi] at ej
      cases ej
      refine ⟨v, hv, by rw [FsSet_self]; exact rd, fun z => ?_⟩
      obtain ⟨v2, h1, _, h2⟩ := R.rd j _ _ e
      rw [hv] at h1
      cases h1
      exact h2 z
    · rw [gj h] at ej
      obtain ⟨v2, h1, h2, h3⟩ := R.rd j mj dj ej
      exact ⟨v2, h1, by rw [FsSet, if_neg h]; exact Rds.chg c _ _ _ (fun a ha hm => n3 j mj dj h ej a hm ha) h2, h3⟩
  · by_cases h : j = i
    · subst h
      rw [FsSet_self]
      refine ⟨nd, fun a ha hT => ?_, fun l ml dl hl el a ha hb => ?_⟩
      · rcases hF a ha with z | z
        · exact n2 a z hT
        · exact z.2.1 hT
      · rw [gj hl] at el
        rw [FsSet, if_neg hl] at hb
        rcases hF a ha with z | z
        · exact n3 l ml dl hl el a z hb
        · exact z.2.2 l hl ⟨ml, dl, el⟩ hb
    · rw [gj h] at ej
      obtain ⟨h1, h2, h3⟩ := R.nd j mj dj ej hwj
      rw [FsSet, if_neg h]
      refine ⟨h1, h2, fun l ml dl hl el a ha hb => ?_⟩
      by_cases h' : l = i
      · subst h'
        rw [FsSet_self] at hb
        rcases hF a hb with z | z
        · exact h3 l m d hl e a ha z
        · exact z.2.2 j h ⟨mj, dj, ej⟩ ha
      · rw [gj h'] at el
        rw [FsSet, if_neg h'] at hb
        exact h3 l ml dl hl el a ha hb
  · by_cases h : j = i
    · subst h
      rw [gi] at ej
      cases ej
      rw [FsSet_self]
      obtain ⟨h1, h2⟩ := R.nw j _ _ e
      refine ⟨fun z a ha => ?_, fun z a ha => ?_⟩
      · rcases hF a ha with y | y
        · exact h1 z a y
        · exact y.1
      · rcases hF a ha with y | y
        · exact h2 z a y
        · exact .inr y.1
    · rw [gj h] at ej
      rw [FsSet, if_neg h]
      exact R.nw j mj dj ej
  · refine (R.fr.trans c).mono fun q o eo h => ?_
    rcases h with h | h
    · exact h
    · obtain ⟨h1, h2⟩ := R.nw i _ _ e
      cases m with
      | own =>
        rw [h1 rfl q h] at eo
        cases eo
      | io =>
        rcases h2 rfl q h with z | z
        · exact ⟨i, z⟩
        · rw [z] at eo
          cases eo
      | arg => cases hw
      | shr => cases hw
  · refine (R.pr.trans c).mono fun q o eo h => ?_
    rcases h with h | h
    · exact h
    · exact n2 q h
theorem Stp.write (e : E[i]? = some (some (m, d))) (hw : m.w = true) (c : Chg (fun a => a ∈ Fs i) H H') (hF : ∀ a ∈ F', a ∈ Fs i ∨ H a = none) : Stp [i] H H' E (E.set i (some (m, d'))) Fs (FsSet Fs i F') where
  chg := c.mono fun q o _ h => ⟨i, List.mem_singleton.mpr rfl, m, d, e, hw, h⟩
  fs := fun j hj => if_neg fun z => hj (by rw [z]; exact List.mem_singleton.mpr rfl)
  gr := fun j a ha => by
    by_cases h : j = i
    · subst h
      rw [FsSet_self] at ha
      exact hF a ha
    · rw [FsSet, if_neg h] at ha
      exact .inl ha
  env := fun j hj => List.getElem?_set_ne fun z => hj (by rw [z]; exact List.mem_singleton.mpr rfl)
  md := fun j => by
    by_cases h : j = i
    · subst h
      rw [List.getElem?_set_self (List.getElem?_eq_some_iff.mp e).1, e]
      exact ⟨fun m' d2 z => by cases z; exact ⟨_, rfl⟩, fun m' d2 z => by cases z; exact ⟨_, rfl⟩⟩
    · rw [List.getElem?_set_ne (Ne.symm h)]
      exact ⟨fun m' d2 z => ⟨d2, z⟩, fun m' d2 z => ⟨d2, z⟩⟩
end
/-! ### a part of a slot, as an expression -/
abbrev PF := Env → Option (List Int × Env)
def tVP (G : Gb) (M : List Nat) (i : Nat) (pf : PF) : TE := fun σ H Q => ∃ C E Fs, Rel G C H σ E Fs ∧ ∃ p E', pf E = some (p, E') ∧ (∃ m d sd, E'[i]? = some (some (m, d)) ∧ getP p d = some sd) ∧
  ∀ H' Fs' m d v sd sv P A S, Rel G C H' σ E' Fs' → Stp M H H' E E' Fs Fs' → E'[i]? = some (some (m, d)) → σ[i]? = some (some v) → Foc G H' p d v (Fs' i) sd sv P A S → Q sv H'
abbrev VP (G : Gb) (X : Cx) (e : Expr) (M : List Nat) (i : Nat) (pf : PF) : Prop := PE X e (tVP G M i pf)
def pName (i : Nat) : PF := fun E => match E[i]? with
  | some (some _) => some ([], E)
  | _ => none
def hasP (E : Env) (i : Nat) (p : List Int) : Bool := match E[i]? with
  | some (some (_, d)) => (getP p d).isSome
  | _ => false
def pSub1 (i : Nat) (pf : PF) (f : EF) : PF := fun E => match pf E with
  | some (p, E1) => if hasP E1 i p then (match f E1 with
    | some (.int j, E2) => if hasP E2 i (p ++ [j]) then some (p ++ [j], E2) else none
    | _ => none) else none
  | none => none
theorem hasP_of {E : Env} {i : Nat} {p : List Int} (h : hasP E i p = true) : ∃ m d sd, E[i]? = some (some (m, d)) ∧ getP p d = some sd := by
  unfold hasP at h
  split at h
  · rename_i m d e
    obtain ⟨sd, hs⟩ := Option.isSome_iff_exists.mp h
    exact ⟨m, d, sd, e, hs⟩
  · cases h
section
variable {G : Gb} {X : Cx} {e b : Expr} {M M' : List Nat} {i : Nat} {k : Kind} {pf : PF} {f : EF} {pos : Pos}
theorem vp_name (h : PE X e (tVar i)) : VP G X e [] i (pName i) := PE.imp h fun σ H Q ⟨C, E, Fs, R, p, E', e, ⟨m, d, sd, e1, e2⟩, q⟩ => by
  unfold pName at e
  split at e
  · cases e
    obtain ⟨v, h1, h2, _⟩ := R.rd i m d e1
    obtain ⟨sv, P, A, S, h3⟩ := foc_of h2 e2
    have h4 := h3
    obtain ⟨_, rfl, _⟩ := h3
    exact ⟨sv, h1, q H Fs m d sv sd sv P A S R Stp.refl e1 h1 h4⟩
  · cases e
theorem getP_app : ∀ {p : List Int} {j : Int} {d sd : D}, getP (p ++ [j]) d = some sd → ∃ s, getP p d = some s ∧ getP [j] s = some sd
  | [], j, d, sd, h => ⟨d, rfl, h⟩
  | i :: p, j, .lst ds, sd, h => by
    have h : (atI ds i).bind (getP (p ++ [j])) = some sd := h
    cases e : atI ds i with
    | none => rw [e] at h; cases h
    | some d1 =>
      rw [e] at h
      obtain ⟨s, h1, h2⟩ := getP_app (show getP (p ++ [j]) d1 = some sd from h)
      exact ⟨s, by show (atI ds i).bind (getP p) = some s; rw [e]; exact h1, h2⟩
  | i :: p, j, .tup ds, sd, h => by
    have h : (atI ds i).bind (getP (p ++ [j])) = some sd := h
    cases e : atI ds i with
    | none => rw [e] at h; cases h
    | some d1 =>
      rw [e] at h
      obtain ⟨s, h1, h2⟩ := getP_app (show getP (p ++ [j]) d1 = some sd from h)
      exact ⟨s, by show (atI ds i).bind (getP p) = some s; rw [e]; exact h1, h2⟩
  | _ :: _, _, .non, _, h => by cases h
  | _ :: _, _, .bl _, _, h => by cases h
  | _ :: _, _, .int _, _, h => by cases h
  | _ :: _, _, .str _, _, h => by cases h
  | _ :: _, _, .dct _ _, _, h => by cases h
  | _ :: _, _, .obj _ _ _, _, h => by cases h
  | _ :: _, _, .scr _, _, h => by cases h
theorem foc_det : ∀ {H : Hp} {p : List Int} {d : D} {v : V} {F : List Addr} {sd : D} {sv : V} {P A S : List Addr}, Foc G H p d v F sd sv P A S → getP p d = some sd
  | H, [], _, _, _, _, _, _, _, _, h => by
    obtain ⟨rfl, _⟩ := h
    rfl
  | H, i :: p, _, _, _, _, _, _, _, _, h => by
    obtain ⟨a, xs, ds, j, d1, x1, A1, A2, A3, P', S', Q, rfl, h1, h2, h3, h4, h5, h6, h7, _⟩ := h
    have z := foc_det h7
    rcases h1 with ⟨rfl, _⟩ | ⟨rfl, _⟩
    · show (atI ds i).bind (getP p) = _
      unfold atI
      rw [h2]
      show ((ds[j]?).bind (getP p)) = _
      rw [h3]
      exact z
    · show (atI ds i).bind (getP p) = _
      unfold atI
      rw [h2]
      show ((ds[j]?).bind (getP p)) = _
      rw [h3]
      exact z
theorem vp_sub (x : XOk G X) (h : VP G X e M i pf) (hb : VE G X b M' k f) (hi : (!M'.contains i) = true := by rfl) (hs : PlainIx b := by intro _ _; rfl) : VP G X (.Subscript e b pos) (M ++ M') i (pSub1 i pf f) := PE.imp (pe_ix (ix_all x) h hb hs) fun σ H Q ⟨C, E, Fs, R, p, E', e, ⟨m0, d0, sd0, e01, e02⟩, q⟩ => by
  have hi' : i ∉ M' := by simpa using hi
  unfold pSub1 at e
  split at e
  · rename_i p1 E1 e1
    split at e
    · rename_i hh
      split at e
      · rename_i j E2 e2
        split at e
        · cases e
          obtain ⟨s, g1, g2⟩ := getP_app e02
          refine ⟨C, E, Fs, R, p1, E1, e1, hasP_of hh, fun H1 Fs1 m d v sd sv P A S R1 s1 em ev hf => ?_⟩
          refine ⟨C, E1, Fs1, R1, _, _, e2, fun y H2 Fs2 F R2 s2 r2 k2 => ?_⟩
          have em2 : E'[i]? = some (some (m, d)) := by rw [s2.env i hi']; exact em
          have ed : d0 = d := by
            rw [em2] at e01
            cases e01
            rfl
          have fs2 := s2.fs i hi'
          have ap : ∀ a ∈ Fs1 i, ¬ ∃ j ∈ M', ∃ m d, E1[j]? = some (some (m, d)) ∧ m.w = true ∧ a ∈ Fs1 j := fun a ha ⟨l, hl, ml, dl, h1, h2, h3⟩ => (R1.nd l ml dl h1 h2).2.2 i m d (fun z => hi' (by rw [z]; exact hl)) em a h3 ha
          have hf2 := Foc.chg s2.chg ap hf
          have es := foc_det hf
          rw [ed] at g1
          rw [g1] at es
          have es : s = sd := Option.some.inj es
          rw [es] at g2
          obtain ⟨x1, P', A', S', h1, a, xs, rfl, h2, h3⟩ := foc_ext hf2 g2
          rw [(rds_int.mp r2).1]
          have fin := q H2 Fs2 m d v sd0 x1 P' A' S' R2 (s1.trans s2) em2 ev (by rw [fs2]; exact h1)
          rw [x.K]
          rcases h3 with ⟨ds, rfl, h3⟩ | ⟨ds, rfl, h3⟩
          · exact .inl (.inl ⟨a, xs, j, x1, rfl, rfl, SqL.of h3, h2, fin⟩)
          · exact .inl (.inr (.inl ⟨a, xs, j, x1, rfl, rfl, h3, h2, fin⟩))
        · cases e
      · cases e
    · cases e
  · cases e
end
end
end VL
set_option maxHeartbeats 4000000
namespace VL
noncomputable section
open PySem PySem.Spec PyProof.Rows L2
open GxR (TabB TabG Tabbed)
/-! ### methods that write -/
/-- what may be stored: new, or without lists -/
def storable (k : Kind) (d : D) : Bool := d.atom || match k with
  | .own => true
  | .top _ => d.flat
  | _ => false
/-- of several the last at most has lists -/
def storL : List Kind → List D → Bool
  | [k], [d] => storable k d
  | _ :: ks, d :: ds => d.atom && storL ks ds
  | [], [] => true
  | _, _ => false
abbrev OPD := D → List D → Option (D × D)
def MutOk (G : Gb) (r : V → List V → Hp → VK → Prop) (op : OPD) : Prop := ∀ (H : Hp) (sd : D) (sv : V) (A : List Addr) (ds : List D) (vs : List V) (B : List Addr) (Q : VK) (sd' res : D), Rds G H sd sv A → RdsL G H ds vs B → A.Nodup → B.Nodup → (∀ a ∈ A, a ∉ B) → op sd ds = some (sd', res) → res.atom = true →
  (∀ v H' A', Rds G H' sd' sv A' → Rds G H' res v [] → A'.Nodup → (∀ a ∈ A', a ∈ A ∨ a ∈ B) → Chg (fun a => a ∈ A) H H' → Q v H') → r sv vs H Q
def tyD (T : String) : D → Bool
  | .lst _ => T == "list"
  | .dct _ _ => T == "dict"
  | _ => false
theorem tyV_of {G : Gb} {H : Hp} {T : String} {d : D} {v : V} {A : List Addr} (r : Rds G H d v A) (h : tyD T d = true) : tyV G.K T v H := by
  cases d <;> unfold tyD at h <;> first | cases h | skip
  · obtain ⟨a, xs, A', rfl, h1, _⟩ := rds_lst.mp r
    exact .inl ⟨by simpa using h, xs, SqL.of h1⟩
  · obtain ⟨a, us, A', rfl, h1, _⟩ := rds_dct.mp r
    exact .inr (.inr (.inl ⟨by simpa using h, .inl ⟨us, h1⟩⟩))
def hasT (T : String) (E : Env) (i : Nat) (p : List Int) : Bool := match E[i]? with
  | some (some (_, d)) => (match getP p d with
    | some sd => tyD T sd
    | none => false)
  | _ => false
theorem hasT_of {T : String} {E : Env} {i : Nat} {p : List Int} (h : hasT T E i p = true) : ∃ m d sd, E[i]? = some (some (m, d)) ∧ getP p d = some sd ∧ tyD T sd = true := by
  unfold hasT at h
  split at h
  · rename_i m d e
    split at h
    · rename_i sd e2
      exact ⟨m, d, sd, e, e2, h⟩
    · cases h
  · cases h
def eMut (T : String) (i : Nat) (pf : PF) (ks : List Kind) (l : LF) (op : OPD) : EF := fun E => match pf E with
  | some (p, E1) => if hasT T E1 i p then (match l E1 with
    | some (ds, E2) => if storL ks ds then (match E2[i]? with
      | some (some (m, d)) => if m.w then (match getP p d with
        | some sd => (match op sd ds with
          | some (sd', res) => if res.atom then (match setP p d sd' with
            | some d' => some (res, E2.set i (some (m, d')))
            | none => none) else none
          | none => none)
        | none => none) else none
      | _ => none) else none
    | none => none) else none
  | none => none
section
variable {G : Gb} {σ : L2.St} {H H1 : Hp} {E : Env} {Fs : Nat → List Addr}
theorem storL_ok {C : Ctx} : ∀ {ks : List Kind} {ds : List D} {vs : List V} {FF : List (List Addr)}, storL ks ds = true → ArgsOk G σ H H1 E Fs ks ds vs FF → FF.flatten.Nodup ∧ ∀ a ∈ FF.flatten, Loose H E Fs a
  | [], _, _, _, _, h => by
    obtain ⟨rfl, rfl, rfl⟩ := h
    exact ⟨List.nodup_nil, fun a ha => by cases ha⟩
  | [k], _, _, _, hs, h => by
    obtain ⟨d, ds', v, vs', F, FF', rfl, rfl, rfl, h4, h5, h6, rfl, rfl, rfl⟩ := h
    have hs : storable k d = true := hs
    unfold storable at hs
    rw [Bool.or_eq_true] at hs
    simp only [List.flatten_cons, List.flatten_nil, List.append_nil]
    rcases hs with hs | hs
    · rw [Rds.atom _ _ _ hs h4]
      exact ⟨List.nodup_nil, fun a ha => by cases ha⟩
    · cases k with
      | own => exact ⟨h5.1, fun a ha => (h5.2 a ha).elim (fun ⟨_, z, _⟩ => by cases z) id⟩
      | top S =>
        obtain ⟨a, rfl, hn⟩ := flat_one hs h4
        refine ⟨by simp, fun b hb => ?_⟩
        rw [List.mem_singleton.mp hb]
        exact h5.2 a [] hn rfl
      | sub i => cases hs
      | vw S => cases hs
      | ref i => cases hs
  | k :: k2 :: ks, _, _, _, hs, h => by
    obtain ⟨d, ds', v, vs', F, FF', rfl, rfl, rfl, h4, h5, h6, h7⟩ := h
    have hs : (d.atom && storL (k2 :: ks) ds') = true := by
      cases ds' with
      | nil =>
        obtain ⟨d2, _, _, _, _, _, z, _⟩ := h7
        cases z
      | cons d2 ds2 => exact hs
    rw [Bool.and_eq_true] at hs
    rw [List.flatten_cons, Rds.atom _ _ _ hs.1 h4, List.nil_append]
    exact storL_ok (C := C) hs.2 h7
end
section
variable {G : Gb} {X : Cx} {o e : Expr} {es : List Expr} {M M' : List Nat} {i : Nat} {ks : List Kind} {pf : PF} {l : LF} {op : OPD} {r : V → List V → Hp → VK → Prop}
theorem mut_of {T : String} {σ : L2.St} {H : Hp} {Q : VK} (P : MutOk G r op) (hi : i ∉ M') (h : tV G (M ++ (M' ++ [i])) .own (eMut T i pf ks l op) σ H Q) :
    tVP G M i pf σ H fun x H1 => tyV G.K T x H1 ∧ tVL G M' ks l σ H1 fun xs H2 => r x xs H2 Q := by
  obtain ⟨C, E, Fs, R, d, E', e, q⟩ := h
  unfold eMut at e
  split at e
  · rename_i p E1 e1
    split at e
    · rename_i hh
      split at e
      · rename_i ds E2 e2
        split at e
        · rename_i hst
          split at e
          · rename_i m dd e3
            split at e
            · rename_i hw
              split at e
              · rename_i sd e4
                split at e
                · rename_i sd' res e5
                  split at e
                  · rename_i ha
                    split at e
                    · rename_i d' e6
                      cases e
                      obtain ⟨m9, d9, s9, k1, k2, k3⟩ := hasT_of hh
                      refine ⟨C, E, Fs, R, p, E1, e1, ⟨m9, d9, s9, k1, k2⟩, fun H1 Fs1 m1 d1 v sd1 sv Pf A S R1 s1 em ev hf => ?_⟩
                      obtain ⟨eF, rd1⟩ := foc_rds hf
                      have g1 := foc_det hf
                      -- behind the arguments the slot is what it was
                      have same : ∀ {H2 Fs2 FF vs}, Rel G C H2 σ E2 Fs2 → Stp M' H1 H2 E1 E2 Fs1 Fs2 → ArgsOk G σ H1 H2 E2 Fs2 ks ds vs FF → m1 = m ∧ d1 = dd ∧ sd1 = sd := fun {H2 Fs2 FF vs} R2 s2 a2 => by
                        have em2 : E2[i]? = some (some (m1, d1)) := by rw [s2.env i hi]; exact em
                        rw [e3] at em2
                        cases em2
                        rw [e4] at g1
                        cases g1
                        exact ⟨rfl, rfl, rfl⟩
                      refine ⟨?_, C, E1, Fs1, R1, ds, E2, e2, fun vs H2 Fs2 FF R2 s2 a2 => ?_⟩
                      · rw [k1] at em
                        cases em
                        rw [k2] at g1
                        cases g1
                        exact tyV_of rd1 k3
                      · obtain ⟨rfl, rfl, rfl⟩ := same R2 s2 a2
                        have fs2 := s2.fs i hi
                        have em2 : E2[i]? = some (some (m1, d1)) := e3
                        have ap : ∀ a ∈ Fs1 i, ¬ ∃ j ∈ M', ∃ m d, E1[j]? = some (some (m, d)) ∧ m.w = true ∧ a ∈ Fs1 j := fun a ha ⟨j, hj, mj, dj, h1, h2, h3⟩ => (R1.nd j mj dj h1 h2).2.2 i m1 d1 (fun z => hi (by rw [z]; exact hj)) em a h3 ha
                        have hf2 := Foc.chg s2.chg ap hf
                        obtain ⟨_, rd2⟩ := foc_rds hf2
                        obtain ⟨ndB, loB⟩ := storL_ok (C := C) hst a2
                        have nd2 := (R2.nd i m1 d1 em2 hw).1
                        have ndF : (Fs1 i).Nodup := by rw [← fs2]; exact nd2
                        have ndA : A.Nodup := by
                          rw [eF] at ndF
                          exact ((List.sublist_append_left A S).trans (List.sublist_append_right Pf _)).nodup ndF
                        have inA : ∀ a ∈ A, a ∈ Fs1 i := fun a ha => by rw [eF]; simp [ha]
                        refine P H2 sd1 sv A ds vs FF.flatten Q sd' _ rd2 a2.rds ndA ndB (fun a ha hb => ?_) e5 ha fun v3 H3 A' rA' rR ndA' inA' c3 => ?_
                        · exact (loB a hb).2 i ⟨m1, d1, em2⟩ (by rw [fs2]; exact inA a ha)
                        · have rd3 := foc_set hf2 ndF c3 rA' e6
                          have c3' : Chg (fun a => a ∈ Fs2 i) H2 H3 := c3.mono fun q o _ h => by rw [fs2]; exact inA q h
                          have split_ : ∀ a ∈ Pf ++ (A' ++ S), a ∈ Fs2 i ∨ a ∈ FF.flatten := fun a ha => by
                            rw [fs2, eF]
                            simp only [List.mem_append] at ha ⊢
                            rcases ha with z | z | z
                            · exact .inl (.inl z)
                            · rcases inA' a z with y | y
                              · exact .inl (.inr (.inl y))
                              · exact .inr y
                            · exact .inl (.inr (.inr z))
                          have ndN : (Pf ++ (A' ++ S)).Nodup := by
                            have ndF' := ndF
                            rw [eF, List.nodup_append] at ndF'
                            obtain ⟨n1, n2, n3⟩ := ndF'
                            rw [List.nodup_append] at n2
                            obtain ⟨_, n5, n6⟩ := n2
                            have ofB : ∀ {a}, a ∈ FF.flatten → a ∉ Fs1 i := fun {a} hb hm => (loB a hb).2 i ⟨m1, d1, em2⟩ (by rw [fs2]; exact hm)
                            rw [List.nodup_append]
                            refine ⟨n1, ?_, fun a ha b hb eab => ?_⟩
                            · rw [List.nodup_append]
                              refine ⟨ndA', n5, fun a ha b hb eab => ?_⟩
                              subst eab
                              rcases inA' a ha with y | y
                              · exact n6 a y a hb rfl
                              · exact ofB y (by rw [eF]; simp [hb])
                            · subst eab
                              rcases List.mem_append.mp hb with z | z
                              · rcases inA' a z with y | y
                                · exact n3 a ha a (by simp [y]) rfl
                                · exact ofB y (by rw [eF]; simp [ha])
                              · exact n3 a ha a (by simp [z]) rfl
                          have R3 := R2.write em2 hw ev c3' rd3 ndN fun a ha => by
                            rcases split_ a ha with z | z
                            · exact .inl z
                            · have l := loB a z
                              have hn := R1.hn a l.1
                              exact .inr ⟨hn.1, hn.2, fun j _ hj => l.2 j hj⟩
                          have s3 : Stp (M' ++ [i]) H1 H3 E1 (E2.set i (some (m1, d'))) Fs1 (FsSet Fs2 i (Pf ++ (A' ++ S))) := by
                            have hi2 : i < E2.length := (List.getElem?_eq_some_iff.mp em2).1
                            refine ⟨(s2.chg.trans c3').mono fun q o _ h => ?_, fun j hj => ?_, fun j a ha => ?_, fun j hj => ?_, fun j => ?_⟩
                            · rcases h with ⟨j, hj, z⟩ | z
                              · exact ⟨j, List.mem_append_left _ hj, z⟩
                              · exact ⟨i, by simp, m1, d1, em, hw, by rw [← fs2]; exact z⟩
                            · have hji : j ≠ i := fun z => hj (by simp [z])
                              show (if j = i then _ else Fs2 j) = Fs1 j
                              rw [if_neg hji]
                              exact s2.fs j fun z => hj (by simp [z])
                            · by_cases hji : j = i
                              · subst hji
                                rw [FsSet_self] at ha
                                rcases split_ a ha with z | z
                                · rw [fs2] at z
                                  exact .inl z
                                · exact .inr (loB a z).1
                              · have ha : a ∈ (if j = i then (Pf ++ (A' ++ S)) else Fs2 j) := ha
                                rw [if_neg hji] at ha
                                exact s2.gr j a ha
                            · have hji : j ≠ i := fun z => hj (by simp [z])
                              rw [List.getElem?_set_ne (Ne.symm hji)]
                              exact s2.env j fun z => hj (by simp [z])
                            · by_cases hji : j = i
                              · subst hji
                                rw [List.getElem?_set_self hi2, em]
                                exact ⟨fun m' d2 z => by cases z; exact ⟨_, rfl⟩, fun m' d2 z => by cases z; exact ⟨_, rfl⟩⟩
                              · rw [List.getElem?_set_ne (Ne.symm hji)]
                                exact s2.md j
                          exact q v3 H3 _ [] R3 (s1.trans s3) rR ⟨List.nodup_nil, fun a ha => by cases ha⟩
                    · cases e
                  · cases e
                · cases e
              · cases e
            · cases e
          · cases e
        · cases e
      · cases e
    · cases e
  · cases e
end
end
end VL
set_option maxHeartbeats 4000000
namespace VL
noncomputable section
open PySem PySem.Spec PyProof.Rows L2
open GxR (TabB TabG Tabbed)
section
variable {G : Gb} {X : Cx} {o e : Expr} {es : List Expr} {M M' : List Nat} {i : Nat} {ks : List Kind} {pf : PF} {l : LF} {op : OPD} {r : V → List V → Hp → VK → Prop} {name : Str} {apos cpos : Pos} {T id : String}
theorem ve_mut (x : XOk G X) (pa : PlainAttrs T) (slot : Slot T name id) (hty : typeOf (.builtin id) = pure (.type "method_descriptor")) (hm : MtR X id r) (P : MutOk G r op) (ho : VP G X o M i pf) (ha : VL G X (e :: es) M' ks l) (hi : (!M'.contains i) = true := by rfl)
    (hbase : attributeBase o name X.env (eval o X.env) = eval o X.env := by rfl)
    (hfew : ((backTo cpos (starEach (e :: es) X.env)).all (fun x => !x.1) && (backToKw cpos (keywordEach [] X.env)).all (fun x => x.1.isSome)
      && decide ((e :: es).length + ([] : List Keyword).length + (if ([] : List Keyword).isEmpty then 0 else 1) < 30)) = true := by rfl)
    (hline : (apos.endLine == cpos.line) = true := by rfl) (hs : starEach (e :: es) X.env = (false, eval e X.env) :: starEach es X.env := by rfl) (hplain : (backTo cpos (starEach es X.env)).any (·.1) = false := by rfl) :
    VE G X (.Call (.Attribute o name apos) (e :: es) [] cpos) (M ++ (M' ++ [i])) .own (eMut T i pf ks l op) :=
  PE.imp (pe_bm pa slot hty hm ho ha hbase hfew hline hs hplain) fun σ H Q h => by
    have z := mut_of P (by simpa using hi) h
    unfold tBM
    rw [x.K]
    exact z
theorem ve_mut0 (x : XOk G X) (pa : PlainAttrs T) (slot : Slot T name id) (hty : typeOf (.builtin id) = pure (.type "method_descriptor")) (hm : MtR X id r) (P : MutOk G r op) (ho : VP G X o M i pf)
    (hbase : attributeBase o name X.env (eval o X.env) = eval o X.env := by rfl) (hline : (apos.endLine == cpos.line) = true := by rfl) :
    VE G X (.Call (.Attribute o name apos) [] [] cpos) (M ++ [i]) .own (eMut T i pf [] lNil op) :=
  PE.imp (pe_bm0 pa slot hty hm ho hbase hline) fun σ H Q h => by
    obtain ⟨C, E, Fs, R, p, E', e1, e2, z⟩ := mut_of (M' := []) P (by simp) (by simpa using h)
    unfold tBM0
    rw [x.K]
    refine ⟨C, E, Fs, R, p, E', e1, e2, fun H' Fs' m d v sd sv P A S h1 h2 h3 h4 h5 => ?_⟩
    obtain ⟨z1, z2⟩ := z H' Fs' m d v sd sv P A S h1 h2 h3 h4 h5
    exact ⟨z1, nil_of z2⟩
/-! ### lists -/
theorem mut_lst {H : Hp} {ds' : List D} {a : Addr} {xs ys : List V} {A A' : List Addr} {Q : VK} {res : D} {v : V} (h1 : H a = some (.lst xs)) (hr : ∀ G H, Rds G H res v []) (r' : RdsL G H ds' ys A') (nd : (a :: A').Nodup) (inA : ∀ z ∈ A', z ∈ A)
    (q : ∀ H' A', Rds G H' (.lst ds') (.ref a) A' → Rds G H' res v [] → A'.Nodup → (∀ z ∈ A', z ∈ a :: A) → Chg (fun z => z = a) H H' → Q v H') : Q v (upd H a (.lst ys)) := by
  have c : Chg (fun z => z = a) H (upd H a (.lst ys)) := Chg.put h1 rfl rfl
  rw [List.nodup_cons] at nd
  refine q _ (a :: A') (rds_lst.mpr ⟨a, ys, A', rfl, upd_same, RdsL.chg c _ _ _ (fun z hz e => nd.1 (by rw [← e]; exact hz)) r', rfl⟩) (hr _ _) (List.nodup_cons.mpr nd) (fun z hz => ?_) c
  rcases List.mem_cons.mp hz with rfl | hz
  · exact List.mem_cons_self
  · exact List.mem_cons_of_mem _ (inA z hz)
def opApp : OPD
  | .lst ds, [d] => if sl (decide (ds.length < sizeLine)) then some (.lst (ds ++ [d]), .non) else none
  | _, _ => none
theorem mut_append : MutOk G rAppend opApp := fun H sd sv A ds vs B Q sd' res r1 r2 ndA ndB ap e ha q => by
  unfold opApp at e
  split at e
  · split at e
    · rename_i ds d hl
      replace hl := sl_iff.mp hl
      cases e
      obtain ⟨a, xs, A', rfl, h1, h2, rfl⟩ := rds_lst.mp r1
      obtain ⟨y, rfl, h3⟩ := rdsL1 r2
      refine ⟨a, xs, y, rfl, rfl, h1, by rw [rdsL_len h2]; exact hl, ?_⟩
      have r' : RdsL G H (ds ++ [d]) (xs ++ [y]) (A' ++ B) := rdsL_app h2 (rdsL_cons.mpr ⟨y, [], B, [], rfl, by simp, h3, rdsL_nil.mpr ⟨rfl, rfl⟩⟩)
      refine mut_lst (res := .non) (A := A' ++ B) h1 (fun _ _ => rds_non.mpr ⟨rfl, rfl⟩) r' ?_ (fun z hz => hz) fun H' A2 g1 g2 g3 g4 g5 => q _ H' A2 g1 g2 g3 (fun z hz => ?_) (g5.mono fun q o _ h => by rw [h]; exact List.mem_cons_self)
      · rw [← List.cons_append, List.nodup_append]
        exact ⟨ndA, ndB, fun z hz w hw e => ap z hz (by rw [e]; exact hw)⟩
      · rcases List.mem_cons.mp (g4 z hz) with rfl | y
        · exact .inl List.mem_cons_self
        · rcases List.mem_append.mp y with y | y
          · exact .inl (List.mem_cons_of_mem _ y)
          · exact .inr y
    · cases e
  · cases e
def opIns : OPD
  | .lst ds, [.int i, d] => if sl (decide (ds.length < sizeLine ∧ 0 ≤ i ∧ i < 2 ^ 63)) then some (.lst (ds.take i.toNat ++ [d] ++ ds.drop i.toNat), .non) else none
  | _, _ => none
abbrev rInsert : V → List V → Hp → VK → Prop := fun x vs H Q => ∃ (l : Addr) (xs : List V) (i : Int) (y : V), x = .ref l ∧ vs = [.int i, y] ∧ H l = some (.lst xs) ∧ xs.length < sizeLine ∧ 0 ≤ i ∧ i < 2 ^ 63 ∧
    Q .non (upd H l (.lst (xs.take i.toNat ++ [y] ++ xs.drop i.toNat)))
theorem rdsL_cutAt {H : Hp} : ∀ {ds : List D} {vs : List V} {F : List Addr} (n : Nat), RdsL G H ds vs F → ∃ A B, RdsL G H (ds.take n) (vs.take n) A ∧ RdsL G H (ds.drop n) (vs.drop n) B ∧ F = A ++ B
  | _, _, F, 0, h => ⟨[], F, rdsL_nil.mpr ⟨rfl, rfl⟩, h, rfl⟩
  | [], _, F, n + 1, h => by
    obtain ⟨rfl, rfl⟩ := rdsL_nil.mp h
    exact ⟨[], [], h, h, rfl⟩
  | d :: ds, _, F, n + 1, h => by
    obtain ⟨x, r, A, B, rfl, rfl, h1, h2⟩ := rdsL_cons.mp h
    obtain ⟨A', B', h3, h4, rfl⟩ := rdsL_cutAt n h2
    exact ⟨A ++ A', B', rdsL_cons.mpr ⟨x, _, A, A', rfl, rfl, h1, h3⟩, h4, by rw [List.append_assoc]⟩
theorem mut_insert : MutOk G rInsert opIns := fun H sd sv A ds vs B Q sd' res r1 r2 ndA ndB ap e ha q => by
  unfold opIns at e
  split at e
  · split at e
    · rename_i ds i d hl
      replace hl := sl_iff.mp hl
      cases e
      obtain ⟨a, xs, A', rfl, h1, h2, rfl⟩ := rds_lst.mp r1
      obtain ⟨y0, y, B0, B1, rfl, rfl, h0, h3⟩ := rdsL2 r2
      obtain ⟨rfl, rfl⟩ := rds_int.mp h0
      refine ⟨a, xs, i, y, rfl, rfl, h1, by rw [rdsL_len h2]; exact hl.1, hl.2.1, hl.2.2, ?_⟩
      obtain ⟨C1, C2, h4, h5, rfl⟩ := rdsL_cutAt i.toNat h2
      have r' : RdsL G H (ds.take i.toNat ++ [d] ++ ds.drop i.toNat) (xs.take i.toNat ++ [y] ++ xs.drop i.toNat) ((C1 ++ B1) ++ C2) := rdsL_app (rdsL_app h4 (rdsL_cons.mpr ⟨y, [], B1, [], rfl, by simp, h3, rdsL_nil.mpr ⟨rfl, rfl⟩⟩)) h5
      rw [List.nil_append] at ndB ap
      refine mut_lst (res := .non) (A := (C1 ++ B1) ++ C2) h1 (fun _ _ => rds_non.mpr ⟨rfl, rfl⟩) r' ?_ (fun z hz => hz) fun H' A2 g1 g2 g3 g4 g5 => q _ H' A2 g1 g2 g3 (fun z hz => ?_) (g5.mono fun q o _ h => by rw [h]; exact List.mem_cons_self)
      · rw [List.nodup_cons, List.nodup_append] at ndA ⊢
        obtain ⟨n1, n2, n3, n4⟩ := ndA
        refine ⟨fun hm => ?_, ?_, n3, fun z hz w hw e => ?_⟩
        · rcases List.mem_append.mp hm with hm | hm
          · rcases List.mem_append.mp hm with hm | hm
            · exact n1 (List.mem_append_left _ hm)
            · exact ap a List.mem_cons_self hm
          · exact n1 (List.mem_append_right _ hm)
        · rw [List.nodup_append]
          exact ⟨n2, ndB, fun z hz w hw e => ap z (List.mem_cons_of_mem _ (List.mem_append_left _ hz)) (by rw [e]; exact hw)⟩
        · rcases List.mem_append.mp hz with hz | hz
          · exact n4 z hz w hw e
          · exact ap w (List.mem_cons_of_mem _ (List.mem_append_right _ hw)) (by rw [← e]; exact hz)
      · rcases List.mem_cons.mp (g4 z hz) with rfl | y
        · exact .inl List.mem_cons_self
        · rcases List.mem_append.mp y with y | y
          · rcases List.mem_append.mp y with y | y
            · exact .inl (List.mem_cons_of_mem _ (List.mem_append_left _ y))
            · exact .inr (by simpa using y)
          · exact .inl (List.mem_cons_of_mem _ (List.mem_append_right _ y))
    · cases e
  · cases e
/-- what only takes away, or moves about -/
theorem mut_less {H : Hp} {a : Addr} {xs ys : List V} {A B A' : List Addr} {ds' : List D} {res : D} {v : V} {Q : VK} (h1 : H a = some (.lst xs)) (ndA : (a :: A).Nodup) (hr : ∀ G H, Rds G H res v []) (r' : RdsL G H ds' ys A') (pm : ∃ L, L.Perm A ∧ A'.Sublist L)
    (q : ∀ v H' A', Rds G H' (.lst ds') (.ref a) A' → Rds G H' res v [] → A'.Nodup → (∀ z ∈ A', z ∈ a :: A ∨ z ∈ B) → Chg (fun z => z ∈ a :: A) H H' → Q v H') : Q v (upd H a (.lst ys)) := by
  obtain ⟨L, h2, h3⟩ := pm
  rw [List.nodup_cons] at ndA
  have inA : ∀ z ∈ A', z ∈ A := fun z hz => h2.mem_iff.mp (h3.subset hz)
  refine mut_lst (A := A) h1 hr r' (List.nodup_cons.mpr ⟨fun z => ndA.1 (inA _ z), h3.nodup (h2.symm.nodup ndA.2)⟩) inA fun H' A2 g1 g2 g3 g4 g5 => q _ H' A2 g1 g2 g3 (fun z hz => .inl (g4 z hz)) (g5.mono fun q o _ h => by rw [h]; exact List.mem_cons_self)
theorem q_res {H H' : Hp} {d : D} {v : V} (ha : d.atom = true) {A : List Addr} (r : Rds G H d v A) (c : Chg (fun _ => True) H H') : Rds G H' d v [] := by
  have e := Rds.atom d v A ha r
  subst e
  exact Rds.chg c _ _ _ (fun a h => by cases h) r
def opPop : OPD
  | .lst ds, [] => match ds[ds.length - 1]? with
    | some d => some (.lst ds.dropLast, d)
    | none => none
  | .lst ds, [.int i] => if sl (decide (-(2 ^ 63) ≤ i ∧ i < 2 ^ 63)) then (match seqIndex? i ds.length with
    | some k => (match ds[k]? with
      | some d => some (.lst (ds.eraseIdx k), d)
      | none => none)
    | none => none) else none
  | _, _ => none
abbrev rPopAll : V → List V → Hp → VK → Prop := fun x vs H Q => rPop x vs H Q ∨ rPopAt x vs H Q
theorem rdsL_erase {H : Hp} : ∀ {ds : List D} {vs : List V} {F : List Addr} (k : Nat), RdsL G H ds vs F → ∃ A, RdsL G H (ds.eraseIdx k) (vs.eraseIdx k) A ∧ A.Sublist F
  | [], _, F, k, h => by
    obtain ⟨rfl, rfl⟩ := rdsL_nil.mp h
    exact ⟨[], by simpa using h, List.Sublist.refl _⟩
  | d :: ds, _, F, 0, h => by
    obtain ⟨x, r, A, B, rfl, rfl, h1, h2⟩ := rdsL_cons.mp h
    exact ⟨B, h2, List.sublist_append_right ..⟩
  | d :: ds, _, F, k + 1, h => by
    obtain ⟨x, r, A, B, rfl, rfl, h1, h2⟩ := rdsL_cons.mp h
    obtain ⟨B', h3, h4⟩ := rdsL_erase k h2
    exact ⟨A ++ B', rdsL_cons.mpr ⟨x, _, A, B', rfl, rfl, h1, h3⟩, (List.Sublist.refl A).append h4⟩
theorem eraseIdx_last {α : Type} (l : List α) : l.eraseIdx (l.length - 1) = l.dropLast := by
  rw [List.eraseIdx_eq_take_drop_succ, List.dropLast_eq_take]
  cases l with
  | nil => rfl
  | cons a l => simp
/-- of an atom the value says all -/
theorem atom_any {H H' : Hp} {M : Addr → Prop} {d : D} {v : V} {A : List Addr} (ha : d.atom = true) (r : Rds G H d v A) (c : Chg M H H') : Rds G H' d v [] := by
  have e := Rds.atom d v A ha r
  subst e
  exact Rds.chg c _ _ _ (fun a h => by cases h) r
theorem mut_pop : MutOk G rPopAll opPop := fun H sd sv A ds vs B Q sd' res r1 r2 ndA ndB ap e ha q => by
  unfold opPop at e
  split at e
  · rename_i ds0
    split at e
    · rename_i d e1
      cases e
      obtain ⟨a, xs, A', rfl, h1, h2, rfl⟩ := rds_lst.mp r1
      obtain ⟨rfl, rfl⟩ := rdsL_nil.mp r2
      obtain ⟨y, A1, g1, g2, g3⟩ := rdsL_get h2 e1
      obtain ⟨A2, g4, g5⟩ := rdsL_erase (ds0.length - 1) h2
      have hl := rdsL_len h2
      rw [← hl] at g4 g1
      refine .inl ⟨a, xs, y, rfl, rfl, h1, g1, ?_⟩
      have e3 : xs.eraseIdx (xs.length - 1) = xs.dropLast := eraseIdx_last xs
      rw [e3, hl] at g4
      rw [eraseIdx_last] at g4
      have c : Chg (fun z => z = a) H (upd H a (.lst xs.dropLast)) := Chg.put h1 rfl rfl
      rw [List.nodup_cons] at ndA
      refine q _ _ (a :: A2) (rds_lst.mpr ⟨a, _, A2, rfl, upd_same, RdsL.chg c _ _ _ (fun z hz e => ndA.1 (by rw [← e]; exact g5.subset hz)) g4, rfl⟩) (atom_any ha g2 c) (List.nodup_cons.mpr ⟨fun z => ndA.1 (g5.subset z), g5.nodup ndA.2⟩) (fun z hz => .inl ?_) (c.mono fun q o _ h => by rw [h]; exact List.mem_cons_self)
      rcases List.mem_cons.mp hz with rfl | hz
      · exact List.mem_cons_self
      · exact List.mem_cons_of_mem _ (g5.subset hz)
    · cases e
  · rename_i ds0 i
    split at e
    · rename_i hb
      replace hb := sl_iff.mp hb
      split at e
      · rename_i k ek
        split at e
        · rename_i d e1
          cases e
          obtain ⟨a, xs, A', rfl, h1, h2, rfl⟩ := rds_lst.mp r1
          obtain ⟨y0, rfl, h0⟩ := rdsL1 r2
          obtain ⟨rfl, rfl⟩ := rds_int.mp h0
          obtain ⟨y, A1, g1, g2, g3⟩ := rdsL_get h2 e1
          obtain ⟨A2, g4, g5⟩ := rdsL_erase k h2
          refine .inr ⟨a, xs, i, k, y, rfl, rfl, h1, hb.1, hb.2, by rw [rdsL_len h2]; exact ek, g1, ?_⟩
          have c : Chg (fun z => z = a) H (upd H a (.lst (xs.eraseIdx k))) := Chg.put h1 rfl rfl
          rw [List.nodup_cons] at ndA
          refine q _ _ (a :: A2) (rds_lst.mpr ⟨a, _, A2, rfl, upd_same, RdsL.chg c _ _ _ (fun z hz e => ndA.1 (by rw [← e]; exact g5.subset hz)) g4, rfl⟩) (atom_any ha g2 c) (List.nodup_cons.mpr ⟨fun z => ndA.1 (g5.subset z), g5.nodup ndA.2⟩) (fun z hz => .inl ?_) (c.mono fun q o _ h => by rw [h]; exact List.mem_cons_self)
          rcases List.mem_cons.mp hz with rfl | hz
          · exact List.mem_cons_self
          · exact List.mem_cons_of_mem _ (g5.subset hz)
        · cases e
      · cases e
    · cases e
  · cases e
def opClear : OPD
  | .lst _, [] => some (.lst [], .non)
  | _, _ => none
theorem mut_clear : MutOk G rClear opClear := fun H sd sv A ds vs B Q sd' res r1 r2 ndA ndB ap e ha q => by
  unfold opClear at e
  split at e
  · cases e
    obtain ⟨a, xs, A', rfl, h1, h2, rfl⟩ := rds_lst.mp r1
    obtain ⟨rfl, rfl⟩ := rdsL_nil.mp r2
    exact ⟨a, xs, rfl, rfl, h1, mut_less (B := []) h1 ndA (fun _ _ => rds_non.mpr ⟨rfl, rfl⟩) (rdsL_nil.mpr ⟨rfl, rfl⟩) ⟨A', List.Perm.refl _, List.nil_sublist _⟩ q⟩
  · cases e
/-- xs.extend(ys), ys of atoms -/
def opExt : OPD
  | .lst ds, [.lst es] => if sl (decide (ds.length + es.length ≤ sizeLine)) then some (.lst (ds ++ es), .non) else none
  | _, _ => none
theorem mut_extend : MutOk G rExtend opExt := fun H sd sv A ds vs B Q sd' res r1 r2 ndA ndB ap e ha q => by
  unfold opExt at e
  split at e
  · split at e
    · rename_i ds es hl
      replace hl := sl_iff.mp hl
      cases e
      obtain ⟨a, xs, A', rfl, h1, h2, rfl⟩ := rds_lst.mp r1
      obtain ⟨y, rfl, h3⟩ := rdsL1 r2
      obtain ⟨b, ys, B', rfl, h4, h5, rfl⟩ := rds_lst.mp h3
      refine ⟨a, b, xs, ys, rfl, rfl, h1, h4, by rw [rdsL_len h2, rdsL_len h5]; exact hl, ?_⟩
      rw [List.nodup_cons] at ndB
      refine mut_lst (res := .non) (A := A' ++ B') h1 (fun _ _ => rds_non.mpr ⟨rfl, rfl⟩) (rdsL_app h2 h5) ?_ (fun z hz => hz) fun H' A2 g1 g2 g3 g4 g5 => q _ H' A2 g1 g2 g3 (fun z hz => ?_) (g5.mono fun q o _ h => by rw [h]; exact List.mem_cons_self)
      · rw [← List.cons_append, List.nodup_append]
        exact ⟨ndA, ndB.2, fun z hz w hw e => ap z hz (by rw [e]; exact List.mem_cons_of_mem _ hw)⟩
      · rcases List.mem_cons.mp (g4 z hz) with rfl | y
        · exact .inl List.mem_cons_self
        · rcases List.mem_append.mp y with y | y
          · exact .inl (List.mem_cons_of_mem _ y)
          · exact .inr (List.mem_cons_of_mem _ y)
    · cases e
  · cases e
end
end
end VL
set_option maxHeartbeats 4000000
namespace VL
noncomputable section
open PySem PySem.Spec PyProof.Rows L2
open GxR (TabB TabG Tabbed)
/-! ### x[i] = e -/
def putKD : List Key → List D → Key → D → List Key × List D
  | k' :: ks, d' :: ds, k, d => if k' = k then (k' :: ks, d :: ds) else (k' :: (putKD ks ds k d).1, d' :: (putKD ks ds k d).2)
  | _, _, k, d => ([k], [d])
theorem putK_cons {us : List (Key × V)} {k k' : Key} {v v' : V} (hn : k' ∉ us.map (·.1)) : putK ((k', v') :: us) k v = if k' = k then (k', v) :: us else (k', v') :: putK us k v := by
  by_cases h : k' = k
  · subst h
    rw [if_pos rfl]
    unfold putK
    rw [if_pos (by simp)]
    rw [List.map_cons, if_pos rfl]
    have : us.map (fun kv => if kv.1 = k' then (kv.1, v) else kv) = us := by
      rw [List.map_congr_left (g := id)]
      · simp
      · intro a ha
        rw [if_neg fun z => hn (by rw [← z]; exact List.mem_map_of_mem ha)]
        rfl
    rw [this]
  · rw [if_neg h]
    unfold putK
    have e : (((k', v') :: us).any fun kv => decide (kv.1 = k)) = us.any fun kv => decide (kv.1 = k) := by simp [h]
    rw [e]
    split
    · rw [List.map_cons, if_neg h]
    · rfl
section
variable {G : Gb} {X : Cx}
theorem rdsL_putK {H : Hp} {k : Key} {d : D} {v : V} {B : List Addr} : ∀ {us : List (Key × V)} {ds : List D} {A : List Addr}, RdsL G H ds (us.map (·.2)) A → (us.map (·.1)).Nodup → Rds G H d v B → A.Nodup → B.Nodup → (∀ a ∈ A, a ∉ B) →
    (putK us k v).map (·.1) = (putKD (us.map (·.1)) ds k d).1 ∧ (putKD (us.map (·.1)) ds k d).1.Nodup ∧ (∀ x ∈ (putKD (us.map (·.1)) ds k d).1, x = k ∨ x ∈ us.map (·.1)) ∧ ∃ A', RdsL G H (putKD (us.map (·.1)) ds k d).2 ((putK us k v).map (·.2)) A' ∧ A'.Nodup ∧ ∀ a ∈ A', a ∈ A ∨ a ∈ B
  | [], ds, A, h, nk, rb, nA, nB, ap => by
    have e := rdsL_len h
    cases ds with
    | cons _ _ => simp at e
    | nil =>
      refine ⟨rfl, by simp [putKD], fun x hx => .inl (by simpa [putKD] using hx), B, ?_, nB, fun a ha => .inr ha⟩
      exact rdsL_cons.mpr ⟨v, [], B, [], rfl, by simp, rb, rdsL_nil.mpr ⟨rfl, rfl⟩⟩
  | (k', v') :: us, ds, A, h, nk, rb, nA, nB, ap => by
    cases ds with
    | nil => exact absurd (rdsL_len h) (by simp)
    | cons d' ds =>
      obtain ⟨x, r, A1, A2, e, rfl, h1, h2⟩ := rdsL_cons.mp h
      cases e
      rw [List.map_cons, List.nodup_cons] at nk
      rw [List.nodup_append] at nA
      rw [putK_cons nk.1]
      by_cases hk : k' = k
      · rw [if_pos hk]
        simp only [List.map_cons, putKD, if_pos hk]
        refine ⟨trivial, List.nodup_cons.mpr nk, fun x hx => .inr hx, B ++ A2, rdsL_cons.mpr ⟨v, _, B, A2, rfl, rfl, rb, h2⟩, ?_, fun a ha => ?_⟩
        · rw [List.nodup_append]
          exact ⟨nB, nA.2.1, fun z hz w hw e => ap w (List.mem_append_right _ hw) (by rw [← e]; exact hz)⟩
        · rcases List.mem_append.mp ha with z | z
          · exact .inr z
          · exact .inl (List.mem_append_right _ z)
      · rw [if_neg hk]
        simp only [List.map_cons, putKD, if_neg hk]
        obtain ⟨g1, g2, g3, A', g4, g5, g6⟩ := rdsL_putK (k := k) (d := d) h2 nk.2 rb nA.2.1 nB (fun a ha => ap a (List.mem_append_right _ ha))
        refine ⟨by rw [g1], List.nodup_cons.mpr ⟨fun hm => ?_, g2⟩, fun x hx => ?_, A1 ++ A', rdsL_cons.mpr ⟨v', _, A1, A', rfl, rfl, h1, g4⟩, ?_, fun a ha => ?_⟩
        · rcases g3 k' hm with z | z
          · exact hk z
          · exact nk.1 z
        · rcases List.mem_cons.mp hx with z | z
          · exact .inr (by rw [z]; exact List.mem_cons_self)
          · rcases g3 x z with y | y
            · exact .inl y
            · exact .inr (List.mem_cons_of_mem _ y)
        · rw [List.nodup_append]
          refine ⟨nA.1, g5, fun z hz w hw e => ?_⟩
          rcases g6 w hw with y | y
          · exact nA.2.2 z hz w y e
          · exact ap z (List.mem_append_left _ hz) (by rw [e]; exact y)
        · rcases List.mem_append.mp ha with z | z
          · exact .inl (List.mem_append_left _ z)
          · rcases g6 a z with y | y
            · exact .inl (List.mem_append_right _ y)
            · exact .inr y
def opSet : OPD
  | .lst ds, [.int k, d] => (match ixN ds.length k with
    | some j => some (.lst (ds.set j d), .non)
    | none => none)
  | .dct ks ds, [kd, d] => (match keyD kd with
    | some k => if sl (decide (ks.length < sizeLine)) then some (.dct (putKD ks ds k d).1 (putKD ks ds k d).2, .non) else none
    | none => none)
  | _, _ => none
abbrev tSetAll : V → V → V → Hp → (Hp → Prop) → Prop := fun o i v H Q => rSetL o i v H Q ∨ ∃ a H', o = .ref a ∧ DPut H a i v H' ∧ Q H'
theorem pset_all (x : XOk G X) : PSet X tSetAll := by
  intro pins s σ H o i v ov iv u Q I ro ri rv h
  rcases h with h | ⟨a, H', rfl, hp, q⟩
  · exact set_list pins s σ H o i v ov iv u Q I ro ri rv h
  · cases ro
    exact d_setItem (by have := x.un; omega) I hp ri rv fun s' I' => ⟨H', I', q⟩
theorem mut_set : MutOk G (fun x vs H Q => ∃ i v, vs = [i, v] ∧ tSetAll x i v H (Q .non)) opSet := fun H sd sv A ds vs B Q sd' res r1 r2 ndA ndB ap e ha q => by
  unfold opSet at e
  split at e
  · rename_i ds k d
    split at e
    · rename_i j ej
      cases e
      obtain ⟨a, xs, A', rfl, h1, h2, rfl⟩ := rds_lst.mp r1
      obtain ⟨y0, y, B0, B1, rfl, rfl, h0, h3⟩ := rdsL2 r2
      obtain ⟨rfl, rfl⟩ := rds_int.mp h0
      rw [List.nil_append] at ndB ap
      have hl := rdsL_len h2
      obtain ⟨_, hj, _⟩ := ixN_seq ej
      obtain ⟨x0, A1, A2, A3, g1, g2, g3, g4, rfl⟩ := rdsL_split h2 (List.getElem?_eq_getElem hj)
      refine ⟨_, _, rfl, .inl ⟨a, xs, k, j, rfl, rfl, h1, by rw [hl]; exact ej, ?_⟩⟩
      have hjx : j < (xs.set j y).length := by rw [List.length_set, hl]; exact hj
      have r' : RdsL G H (ds.set j d) (xs.set j y) (A1 ++ (B1 ++ A3)) := by
        refine rdsL_join hj (by rw [List.length_set]; exact hl) (List.getElem?_set_self (by rw [hl]; exact hj)) ?_ h3 ?_
        · rw [List.take_set_of_le (Nat.le_refl _)]
          exact g2
        · rw [List.drop_set_of_lt (Nat.lt_succ_self _)]
          exact g4
      refine mut_lst (res := .non) (A := A1 ++ (B1 ++ A3)) h1 (fun _ _ => rds_non.mpr ⟨rfl, rfl⟩) r' ?_ (fun z hz => hz) fun H' A2 g1 g2 g3 g4 g5 => q _ H' A2 g1 g2 g3 (fun z hz => ?_) (g5.mono fun q o _ h => by rw [h]; exact List.mem_cons_self)
      · rw [List.nodup_cons] at ndA ⊢
        obtain ⟨n1, n2⟩ := ndA
        rw [List.nodup_append] at n2 ⊢
        obtain ⟨n3, n4, n5⟩ := n2
        rw [List.nodup_append] at n4
        refine ⟨fun hm => ?_, n3, ?_, fun z hz w hw e => ?_⟩
        · rcases List.mem_append.mp hm with hm | hm
          · exact n1 (by simp [hm])
          · rcases List.mem_append.mp hm with hm | hm
            · exact ap a List.mem_cons_self hm
            · exact n1 (by simp [hm])
        · rw [List.nodup_append]
          exact ⟨ndB, n4.2.1, fun z hz w hw e => ap w (by simp [hw]) (by rw [← e]; exact hz)⟩
        · rcases List.mem_append.mp hw with hw | hw
          · exact ap z (by simp [hz]) (by rw [e]; exact hw)
          · exact n5 z hz w (by simp [hw]) e
      · rcases List.mem_cons.mp (g4 z hz) with rfl | y
        · exact .inl List.mem_cons_self
        · rcases List.mem_append.mp y with y | y
          · exact .inl (by simp [y])
          · rcases List.mem_append.mp y with y | y
            · exact .inr (by simpa using y)
            · exact .inl (by simp [y])
    · cases e
  · rename_i ks ds kd d
    split at e
    · rename_i k ek
      split at e
      · rename_i hl
        replace hl := sl_iff.mp hl
        cases e
        obtain ⟨a, us, A', rfl, h1, ⟨rfl, hnd⟩, h2, rfl⟩ := rds_dct.mp r1
        obtain ⟨y0, y, B0, B1, rfl, rfl, h0, h3⟩ := rdsL2 r2
        have ey := rds_key ek h0
        subst ey
        have eB : B0 = [] := by
          cases kd <;> unfold keyD at ek <;> first | cases ek | skip
          · exact (rds_int.mp h0).2
          · exact (rds_str.mp h0).2
        subst eB
        rw [List.nil_append] at ndB ap
        rw [List.nodup_cons] at ndA
        obtain ⟨g1, g2, _, A2, g4, g5, g6⟩ := rdsL_putK (k := k) (d := d) h2 hnd h3 ndA.2 ndB (fun z hz => ap z (List.mem_cons_of_mem _ hz))
        refine ⟨_, _, rfl, .inr ⟨a, _, rfl, DPut.k h1 (by simpa using hl), ?_⟩⟩
        have c : Chg (fun z => z = a) H (upd H a (.dK (putK us k y))) := Chg.put h1 rfl rfl
        have naA : a ∉ A2 := fun hm => by
          rcases g6 a hm with z | z
          · exact ndA.1 z
          · exact ap a List.mem_cons_self z
        refine q _ _ (a :: A2) (rds_dct.mpr ⟨a, _, A2, rfl, upd_same, ⟨g1, g2⟩, RdsL.chg c _ _ _ (fun z hz e => naA (by rw [← e]; exact hz)) g4, rfl⟩) (rds_non.mpr ⟨rfl, rfl⟩) (List.nodup_cons.mpr ⟨naA, g5⟩) (fun z hz => ?_) (c.mono fun q o _ h => by rw [h]; exact List.mem_cons_self)
        rcases List.mem_cons.mp hz with rfl | hz
        · exact .inl List.mem_cons_self
        · rcases g6 z hz with y | y
          · exact .inl (List.mem_cons_of_mem _ y)
          · exact .inr (by simpa using y)
      · cases e
    · cases e
  · cases e
def sSetIt (i : Nat) (k : Kind) (f : EF) (pf : PF) (g : EF) : SF := fun E => match f E with
  | some (d, E1) => (match pf E1 with
    | some (p, E2) => if hasP E2 i p then (match g E2 with
      | some (ix, E3) => if storable k d && ix.atom then (match E3[i]? with
        | some (some (m, dd)) => if m.w then (match getP p dd with
          | some sd => (match opSet sd [ix, d] with
            | some (sd', _) => (match setP p dd sd' with
              | some d' => some (.nx (E3.set i (some (m, d'))))
              | none => none)
            | none => none)
          | none => none) else none
        | _ => none) else none
      | none => none) else none
    | none => none)
  | none => none
theorem vs_setItem {ro : Bool} {o ix e : Expr} {M : List Nat} {i : Nat} {k k' : Kind} {f g : EF} {pf : PF} {pos pos' : Pos} (x : XOk G X) (he : VE G X e M k f) (ho : VP G X o [] i pf) (hi : VE G X ix [] k' g)
    (ha : ∀ v, assign (.Subscript o ix pos') X.env v = (do
      let ov ← holding [v] (eval o X.env)
      let iv ← holding [v, ov] (eval ix X.env)
      standAt pos'
      holding [v, ov, iv] (setItem ov iv v)
      release [v, ov, iv] []) := by intro _; rfl) (hs : swapsWithSole [.Subscript o ix pos'] e pos.line X.env = pure false := by rfl) (hw : swappedStores [.Subscript o ix pos'] e X.env = pure none := by rfl)
    (h1 : (assignEach [.Subscript o ix pos'] X.env).map (·.2) = [assign (.Subscript o ix pos') X.env] := by rfl) : VS G X ro (.Assign [.Subscript o ix pos'] e pos) (sSetIt i k f pf g) :=
  PS.imp (ps_asg he (pg_sub ho hi (pset_all x) ha) hs hw h1) fun N σ H ⟨C, E, Fs, R, o, e, q⟩ => by
    unfold sSetIt at e
    split at e
    · rename_i d E1 e1
      split at e
      · rename_i p E2 e2
        split at e
        · rename_i hh
          split at e
          · rename_i ixd E3 e3
            split at e
            · rename_i hst
              split at e
              · rename_i m dd e4
                split at e
                · rename_i hw
                  split at e
                  · rename_i sd e5
                    split at e
                    · rename_i sd' rr e6
                      split at e
                      · rename_i d' e7
                        cases e
                        rw [Bool.and_eq_true] at hst
                        refine ⟨C, E, Fs, R, d, E1, e1, fun vv H1 Fs1 B R1 s1 rv kv => ?_⟩
                        refine ⟨C, E1, Fs1, R1, p, E2, e2, hasP_of hh, fun H2 Fs2 m1 d1 v sd1 sv Pf A S R2 s2 em ev hf => ?_⟩
                        refine ⟨C, E2, Fs2, R2, ixd, E3, e3, fun iv H3 Fs3 F3 R3 s3 r3 k3 => ?_⟩
                        obtain ⟨rv2, kv2⟩ := kv.step R1 rv s2 (safe_nil k)
                        obtain ⟨rv3, kv3⟩ := kv2.step R2 rv2 s3 (safe_nil k)
                        have em3 : E3[i]? = some (some (m1, d1)) := by rw [s3.env i (by simp)]; exact em
                        rw [e4] at em3
                        cases em3
                        have fs3 := s3.fs i (by simp)
                        have hf3 := Foc.chg s3.chg (fun a _ ⟨j, hj, _⟩ => by cases hj) hf
                        rw [← fs3] at hf3
                        have g1 := foc_det hf3
                        rw [e5] at g1
                        cases g1
                        obtain ⟨eF, rd3⟩ := foc_rds hf3
                        have nd3 := (R3.nd i m dd e4 hw).1
                        have ndA : A.Nodup := by
                          rw [eF] at nd3
                          exact ((List.sublist_append_left A S).trans (List.sublist_append_right Pf _)).nodup nd3
                        have inA : ∀ a ∈ A, a ∈ Fs3 i := fun a ha => by rw [eF]; simp [ha]
                        obtain ⟨ndB, loB⟩ := storL_ok (C := C) (show storL [k] [d] = true from hst.1) (G := G) (σ := σ) (H := H) (H1 := H3) (E := E3) (Fs := Fs3) (vs := [vv]) (FF := [B]) ⟨d, [], vv, [], B, [], rfl, rfl, rfl, rv3, kv3, fun j B' hB => by simp at hB, rfl, rfl, rfl⟩
                        simp only [List.flatten_cons, List.flatten_nil, List.append_nil] at ndB loB
                        have eI := Rds.atom _ _ _ hst.2 r3
                        subst eI
                        have ofB : ∀ {a}, a ∈ B → a ∉ Fs3 i := fun {a} hb hm => (loB a hb).2 i ⟨m, dd, e4⟩ hm
                        have fin4 : ∀ (v3 : V) (H4 : Hp) (A' : List Addr), Rds G H4 sd' sv A' → Rds G H4 rr v3 [] → A'.Nodup → (∀ a ∈ A', a ∈ A ∨ a ∈ B) → Chg (fun a => a ∈ A) H3 H4 → N.nx σ H4 := fun v3 H4 A' rA' rR ndA' inA' c4 => by
                          have rd4 := foc_set hf3 nd3 c4 rA' e7
                          have c4' : Chg (fun a => a ∈ Fs3 i) H3 H4 := c4.mono fun q o _ h => inA q h
                          have ndN : (Pf ++ (A' ++ S)).Nodup := by
                            have ndF' := nd3
                            rw [eF, List.nodup_append] at ndF'
                            obtain ⟨n1, n2, n3⟩ := ndF'
                            rw [List.nodup_append] at n2
                            obtain ⟨_, n5, n6⟩ := n2
                            rw [List.nodup_append]
                            refine ⟨n1, ?_, fun a ha b hb eab => ?_⟩
                            · rw [List.nodup_append]
                              refine ⟨ndA', n5, fun a ha b hb eab => ?_⟩
                              subst eab
                              rcases inA' a ha with y | y
                              · exact n6 a y a hb rfl
                              · exact ofB y (by rw [eF]; simp [hb])
                            · subst eab
                              rcases List.mem_append.mp hb with z | z
                              · rcases inA' a z with y | y
                                · exact n3 a ha a (by simp [y]) rfl
                                · exact ofB y (by rw [eF]; simp [ha])
                              · exact n3 a ha a (by simp [z]) rfl
                          refine q σ H4 _ (R3.write e4 hw ev c4' rd4 ndN fun a ha => ?_)
                          rw [eF]
                          simp only [List.mem_append] at ha ⊢
                          have byB : a ∈ B → C.H0 a = none ∧ ¬ C.T a ∧ ∀ j, j ≠ i → Asg E3 j → a ∉ Fs3 j := fun y => ⟨(R.hn a (loB a y).1).1, (R.hn a (loB a y).1).2, fun j _ hj => (loB a y).2 j hj⟩
                          rcases ha with z | z | z
                          · exact .inl (.inl z)
                          · rcases inA' a z with y | y
                            · exact .inl (.inr (.inl y))
                            · exact .inr (byB y)
                          · exact .inl (.inr (.inr z))
                        obtain ⟨_, _, ez, fin⟩ := mut_set H3 sd sv A [ixd, d] [iv, vv] B (fun _ H' => N.nx σ H') sd' rr rd3 (rdsL_cons.mpr ⟨iv, _, [], B, rfl, rfl, r3, rdsL_cons.mpr ⟨vv, [], B, [], rfl, by simp, rv3, rdsL_nil.mpr ⟨rfl, rfl⟩⟩⟩) ndA ndB (fun a ha hb => ofB hb (inA a ha)) e6 (by
                            unfold opSet at e6
                            split at e6
                            · split at e6
                              · cases e6
                                rfl
                              · cases e6
                            · split at e6
                              · split at e6
                                · cases e6
                                  rfl
                                · cases e6
                              · cases e6
                            · cases e6) fin4
                        cases ez
                        exact fin
                      · cases e
                    · cases e
                  · cases e
                · cases e
              · cases e
            · cases e
          · cases e
        · cases e
      · cases e
    · cases e
end
end
end VL
set_option maxHeartbeats 4000000
namespace VL
noncomputable section
open PySem PySem.Spec PyProof.Rows L2
open GxR (TabB TabG Tabbed)
section
variable {G : Gb} {X : Cx} {o e : Expr} {M M' : List Nat} {k k' : Kind} {f g : EF} {pos apos cpos : Pos}
/-! ### dicts made and asked -/
def eDict0 : EF := fun E => some (.dct [] [], E)
theorem ve_dict0 : VE G X (.Dict [] [] pos) [] .own eDict0 := PE.imp pe_dnewK fun σ H Q ⟨C, E, Fs, R, d, E', e, q⟩ p np => by
  cases e
  have c : Chg No H (upd H p (.dK [])) := Chg.new np
  refine q _ _ Fs [p] (R.chg c) (Stp.of c) (rds_dct.mpr ⟨p, [], [], rfl, upd_same, ⟨rfl, List.nodup_nil⟩, rdsL_nil.mpr ⟨rfl, rfl⟩, rfl⟩) ⟨by simp, fun a ha => .inr ?_⟩
  rw [List.mem_singleton.mp ha]
  exact R.loose np
def eDict1 (f g : EF) : EF := fun E => match f E with
  | some (kd, E1) => (match keyD kd with
    | some k => (match g E1 with
      | some (d, E2) => some (.dct [k] [d], E2)
      | none => none)
    | none => none)
  | none => none
theorem keyD_atom {G : Gb} {H : Hp} {d : D} {k : Key} {v : V} {F : List Addr} (e : keyD d = some k) (r : Rds G H d v F) : F = [] := by
  cases d <;> unfold keyD at e <;> first | cases e | skip
  · exact (rds_int.mp r).2
  · exact (rds_str.mp r).2
theorem ve_dict1 {a b : Expr} (ha : VE G X a [] k f) (hb : VE G X b [] k' g) : VE G X (.Dict [some a] [b] pos) [] (kTop [k']) (eDict1 f g) :=
  PE.imp (pe_disp (pps_cons ha hb pps_nil) rfl rfl (by simp) (by simp)) fun σ H Q ⟨C, E, Fs, R, d, E', e, q⟩ p np => by
    unfold eDict1 at e
    split at e
    · rename_i kd E1 e1
      split at e
      · rename_i kk e2
        split at e
        · rename_i dd E2 e3
          cases e
          have c : Chg No H (upd H p (.dK [])) := Chg.new np
          have R0 := R.chg c
          refine ⟨C, E, Fs, R0, kd, E1, e1, fun x H1 Fs1 F1 R1 s1 r1 k1 => ⟨C, E1, Fs1, R1, dd, E', e3, fun y H2 Fs2 B R2 s2 r2 k2 => ?_⟩⟩
          have hp1 : H1 p = some (.dK []) := s1.chg.keep upd_same rfl fun ⟨j, hj, _⟩ => by cases hj
          have hp2 : H2 p = some (.dK []) := s2.chg.keep hp1 rfl fun ⟨j, hj, _⟩ => by cases hj
          have ex := rds_key e2 r1
          subst ex
          refine ⟨hp2, [(kk, y)], rfl, by simp, ?_⟩
          have em : mergeK [] [(kk, y)] = [(kk, y)] := rfl
          rw [em]
          have nps : ∀ i, Asg E' i → p ∉ Fs2 i := fun i hi hm => by
            rw [s2.fs i (by simp), s1.fs i (by simp)] at hm
            obtain ⟨m, d, ei⟩ := s1.asg.mp (s2.asg.mp hi)
            obtain ⟨v, _, rr, _⟩ := R.rd i m d ei
            obtain ⟨o, eo, _⟩ := Rds.trk _ _ _ rr p hm
            rw [np] at eo
            cases eo
          have hn := R.hn p np
          have cP : Chg (fun z => z = p) H2 (upd H2 p (.dK [(kk, y)])) := Chg.put hp2 rfl rfl
          have R3 := R2.chgL cP nps hn.1 hn.2
          have pB : p ∉ B := fun hm => by
            rcases k2.vw p hm with ⟨s, hs, g1, g2⟩ | g
            · exact nps s g1 g2
            · have g1 := g.1
              rw [hp1] at g1
              cases g1
          have st : Stp [] H (upd H2 p (.dK [(kk, y)])) E E' Fs Fs2 := by
            have s12 := s1.trans s2
            refine ⟨fun z o ez => ?_, fun i _ => s12.fs i (by simp), fun i a ha => ?_, fun i _ => s12.env i (by simp), s12.md⟩
            · have hz : z ≠ p := fun h => by rw [h, np] at ez; cases ez
              rw [upd_ne hz]
              rcases (c.trans s12.chg) z o ez with w | ⟨w1, ps, w2, w3⟩ | ⟨w, _⟩
              · exact .inl w
              · exact .inr (.inl ⟨w1, ps, by rw [upd_ne hz]; exact w2, w3⟩)
              · rcases w with w | ⟨j, hj, _⟩
                · exact w.elim
                · cases hj
            · rw [s12.fs i (by simp)] at ha
              exact .inl ha
          refine q (.ref p) _ Fs2 (p :: B) R3 st (rds_dct.mpr ⟨p, _, B, rfl, upd_same, ⟨rfl, by simp⟩, rdsL_cons.mpr ⟨y, [], B, [], rfl, by simp, Rds.chg cP _ _ _ (fun a ha z => pB (by rw [← z]; exact ha)) r2, rdsL_nil.mpr ⟨rfl, rfl⟩⟩, rfl⟩) ?_
          have lp : Loose H E' Fs2 p := ⟨np, fun i hi => nps i hi⟩
          have k2b := (k2.base s1.chg).base c
          unfold kTop
          by_cases hk : ([k'].all fun k => decide (k = Kind.own)) = true
          · rw [if_pos hk]
            have hk' : k' = .own := of_decide_eq_true (List.all_eq_true.mp hk k' (by simp))
            subst hk'
            refine ⟨List.nodup_cons.mpr ⟨pB, k2b.1⟩, fun a ha => ?_⟩
            rcases List.mem_cons.mp ha with rfl | ha
            · exact .inr lp
            · exact k2b.2 a ha
          · rw [if_neg hk]
            refine ⟨fun a ha => ?_, fun a r _ ea => by cases ea; exact lp⟩
            rcases List.mem_cons.mp ha with rfl | ha
            · exact .inr lp
            · simpa using k2b.vw a ha
        · cases e
      · cases e
    · cases e
theorem args2 {C : Ctx} {σ : L2.St} {H H1 H2 : Hp} {E1 E2 : Env} {Fs1 Fs2 : Nat → List Addr} {d d2 : D} {v y : V} {F F2 : List Addr} {M1 : Addr → Prop} (c1 : Chg M1 H H1) (R1 : Rel G C H1 σ E1 Fs1) (r1 : Rds G H1 d v F) (k1 : KOk σ H E1 Fs1 k d v F) (s2 : Stp M' H1 H2 E1 E2 Fs1 Fs2) (r2 : Rds G H2 d2 y F2) (k2 : KOk σ H1 E2 Fs2 k' d2 y F2) (sf : k.safe M' = true) :
    ArgsOk G σ H H2 E2 Fs2 [k, k'] [d, d2] [v, y] [F, F2] := by
  obtain ⟨r1', k1'⟩ := k1.step R1 r1 s2 sf
  refine ⟨d, [d2], v, [y], F, [F2], rfl, rfl, rfl, r1', k1', fun j B hB hk a ha hb => ?_, d2, [], y, [], F2, [], rfl, rfl, rfl, r2, k2.base c1, fun j B hB => by simp at hB, rfl, rfl, rfl⟩
  cases j with
  | succ j => simp at hB
  | zero =>
    simp at hB
    subst hB
    obtain ⟨o, eo, _⟩ := Rds.trk d v F r1 a ha
    rcases k2.vw a hb with ⟨i, hi, h1, h2⟩ | h1
    · rcases hk with hk | hk
      · subst hk
        rcases k1'.2 a ha with ⟨_, z, _⟩ | z
        · cases z
        · exact z.2 i h1 h2
      · simp at hk
        subst hk
        cases hi
    · rw [h1.1] at eo
      cases eo
/-- d.get(k) -/
def pGet : List D → Option D
  | [.dct ks ds, k] => (keyD k).map fun k => (atK ks ds k).getD .non
  | _ => none
theorem ve_get (x : XOk G X) (ho : VE G X o M k f) (he : VE G X e M' k' g) (m : M1 X o "get" apos e cpos) (sf : k.safe M' = true := by rfl) : VE G X (.Call (.Attribute o "get" apos) [e] [] cpos) (M ++ M') (kPart [k, k']) (ePrim pGet (lCons f (lCons g lNil))) :=
  PE.imp (pe_dget1 (by have := x.un; omega) ho he m) fun σ H Q ⟨C, E, Fs, R, d, E', e, q⟩ => by
    obtain ⟨ds, e1, e2⟩ := ePrim_some e
    have P : PrimE G (r2 fun x y H Q => ∃ a o, x = .ref a ∧ DGet H a y o ∧ Q (o.getD .non) H) pGet := fun H d1 v1 F1 vs ds F Q d tb r1 r e q => by
      unfold pGet at e
      split at e
      · rename_i ks xs kd heq
        cases heq
        obtain ⟨y, rfl, h2⟩ := rdsL1 r
        obtain ⟨a, us, A', rfl, h3, ⟨rfl, hnd⟩, h4, rfl⟩ := rds_dct.mp r1
        cases hk : keyD kd with
        | none => rw [hk] at e; cases e
        | some k' =>
          rw [hk] at e
          cases e
          have ey := rds_key hk h2
          subst ey
          refine ⟨_, _, rfl, a, valV us k', rfl, DGet.k h3, ?_⟩
          have z := rdsL_atK (k := k') h4
          cases h5 : atK (us.map (·.1)) xs k' with
          | none =>
            rw [z.2 h5]
            have q' := q .non H [] (by show Rds G H ((atK (us.map (·.1)) xs k').getD .non) .non []; rw [h5]; exact rds_non.mpr ⟨rfl, rfl⟩) (List.nil_sublist _) (Chg.refl _ _)
            exact q'
          | some d' =>
            obtain ⟨v', A, h6, h7, h8⟩ := z.1 d' h5
            rw [h6]
            exact q v' H A (by show Rds G H ((atK (us.map (·.1)) xs k').getD .non) v' A; rw [h5]; exact h7) (h8.trans (List.sublist_cons_self ..)) (Chg.refl _ _)
      · cases e
    unfold lCons at e1
    split at e1
    · rename_i d1 E1 ef
      split at e1
      · rename_i ds1 E2 eg
        cases e1
        unfold lNil at eg
        split at eg
        · rename_i d2 E3 eg2
          cases eg
          have hd : ∃ ks xs, d1 = .dct ks xs := by
            unfold pGet at e2
            split at e2
            · rename_i ks xs kd heq
              cases heq
              exact ⟨ks, xs, rfl⟩
            · cases e2
          obtain ⟨ks, xs, rfl⟩ := hd
          refine ⟨C, E, Fs, R, _, E1, ef, fun v H1 Fs1 F1 R1 s1 r1 k1 => ?_⟩
          obtain ⟨a, us, A', rfl, h3, h4⟩ := rds_dct.mp r1
          refine ⟨a, rfl, .inl ⟨us, .inl h3⟩, C, E1, Fs1, R1, d2, E', eg2, fun y H2 Fs2 F2 R2 s2 rr2 k2 => ?_⟩
          obtain ⟨_, _, ez, b, oo, eb, g1, g2⟩ := fin_part (ks := [k']) P R2 (s1.trans s2) (args2 s1.chg R1 r1 k1 s2 rr2 k2 sf) e2 q
          cases ez
          cases eb
          exact ⟨oo, g1, g2⟩
        · cases eg
      · cases e1
    · cases e1
end
end
end VL
set_option maxHeartbeats 8000000
namespace VL
noncomputable section
open PySem PySem.Spec PyProof.Rows L2
open GxR (TabB TabG Tabbed)
/-! ### set(x): what is left to show is how the new set is filled -/
section
variable {P : Program} {w : World} {A : Around} {X9 : Value → Shared → Prop} {s : Shared}
/-- a set just made -/
abbrev mtSet (w : World) : Obj := { cls := .type "set", dict := none, data := .set #[] 0 (.fresh 0 0 (!w.params.followText "set-order")) }
abbrev withSet (w : World) (s : Shared) : Shared := { s with heap := s.heap.push (mtSet w) }
theorem set_made (w : World) (s : Shared) : (withSet w s).heap.get? s.heap.objs.size = some (mtSet w) := Heap.get?_push_size _ rfl
theorem call_set_by {u : Value} {Z : Value → Shared → Prop}
    (fill : wpAny (model P w) A.in1.in1 (Builtin.«set.__init__» ⟨[.ref s.heap.objs.size, u], []⟩)
      (fun fin t => match fin with
        | .done fl => wants (fun r t' => r = .none ∧ Z (.ref s.heap.objs.size) t') X9 (.ok fl) t
        | .again c => c.quiet = true ∧ codeAny (model P w) A.in1 c (wants (fun r t' => r = .none ∧ Z (.ref s.heap.objs.size) t') X9) t)
      (fun e t => wants (fun r t' => r = .none ∧ Z (.ref s.heap.objs.size) t') X9 (.error e) t) (withSet w s)) :
    wpAny (model P w) A (call (.type "set") [u]) Z X9 s := by
  have ft := F.called_set
  obtain ⟨c0, rest0, m0⟩ := ft.mro
  have m1 := ft.made
  have m2 := ft.sub
  have m3 := ft.notType
  have m4 := ft.canCreate
  have m5 := F.typeCall_set_1 u
  refine wpAny_call (codeAny_of_tree ?_)
  show wpAny _ _ (callAny (.type "set") ⟨[u], []⟩) _ _ _
  refine wpAny_pure ⟨Code.quiet_builtin _ (by decide +kernel), codeAny_builtin F.entry_type_call ?_⟩
  rw [Around.under_plain (weight_type_call_type "set" [u] []) rfl]
  repeat (any_goals (first | assumption | wp_step))
  refine codeAny_mono (code_set_led1 u (Q₁ := fun ob t => ob = .ref s.heap.objs.size ∧ t = withSet w s) (E := X9) ⟨rfl, rfl⟩) fun r1 t1 hr1 => ?_
  rcases r1 with e | fl
  · exact hr1
  · cases fl with
    | ret ob =>
      obtain ⟨rfl, rfl⟩ := hr1
      have ty : (withSet w s).TypeIs (.ref s.heap.objs.size) "set" := ⟨_, set_made w s, rfl⟩
      have m6 := ft.init.lookup
      have m7 := ft.init.bind (.ref s.heap.objs.size)
      repeat (any_goals (first | assumption | wp_step))
      refine codeAny_mono (codeAny_call_builtin ft.init.plain F.entry_set_init (check_set_init_1 ty fill)) fun r2 t2 hr2 => ?_
      rcases r2 with e2 | fl2
      · exact hr2
      · cases fl2 with
        | ret r =>
          obtain ⟨rfl, hz⟩ := hr2
          repeat (any_goals (first | assumption | wp_step))
        | _ => exact hr2.elim
    | _ => exact hr1.elim
theorem fill_list {l : Addr} {its : Array Value} (ns : List Int) {Z : Value → Shared → Prop} (calm : A.handled = none) (hl : s.heap.IsList l its) (ints_ : IntsAre its.toList ns) (few : ns.length + 1 < scanBound)
    (z : ∀ (h' : Heap) (tk c : Nat), SetR w h' s.heap.objs.size (fun j => decide (j ∈ ns)) c → c ≤ ns.length → (∀ b o, s.heap.get? b = some o → h'.get? b = some o) → Z (.ref s.heap.objs.size) { s with heap := h', toks := tk }) :
    wpAny (model P w) A (call (.type "set") [.ref l]) Z X9 s := by
  have len : its.size = ns.length := by simpa using IntsAre.length ints_
  refine call_set_by ?_
  obtain ⟨ob, e0, ec, k0, ed⟩ := hl
  obtain ⟨cl, di, da, sl⟩ := ob
  simp only at ec ed
  subst ec ed
  have e1 : (withSet w s).heap.get? l = some { cls := .type "list", dict := di, data := .seq its k0, slots := sl } := Heap.get?_push_of_some _ e0
  have q1 := F.sub_list_set
  have q2 := F.sub_list_frozenset
  have q3 : (Value.type "list" == Value.type "dict") = false := by decide
  have il : (withSet w s).heap.IsList l its := ⟨_, e1, rfl, k0, rfl⟩
  have lt0 : l < s.heap.objs.size := Heap.lt_size e0
  have sz1 : (withSet w s).heap.objs.size = s.heap.objs.size + 1 := Heap.size_push ..
  unfold Builtin.«set.__init__» noKeywords Builtin.Frozenset.updateFrom
  generalize hp : pyIter = pit
  wp_walk
  subst hp
  refine wpAny_pyIter_list il (wpAny_bind (wpAny_runValue ?_))
  have apart1 : l ≠ (withSet w s).heap.objs.size := by rw [sz1]; exact Nat.ne_of_lt (Nat.lt_succ_of_lt lt0)
  have apart2 : s.heap.objs.size ∉ [(withSet w s).heap.objs.size, l] := by
    rw [sz1]
    simp only [List.mem_cons, List.not_mem_nil, or_false, not_or]
    exact ⟨Nat.ne_of_lt (Nat.lt_succ_self _), Nat.ne_of_gt lt0⟩
  have each : ∀ (i : Nat) (v : Value), its[i]? = some v → ∃ k t, ns[i]? = some k ∧ v = .int k t := fun i v hv => by
    have hi : i < ns.length := by rw [← len]; exact (Array.getElem?_eq_some_iff.mp hv).1
    obtain ⟨t, e⟩ := PyProof.Rows.IntsAre.int_at ints_ i v (by rw [Array.getElem?_toList]; exact hv)
    exact ⟨ns[i], t, List.getElem?_eq_getElem hi, by rw [e, List.getD_eq_getElem?_getD, List.getElem?_eq_getElem hi]; rfl⟩
  have walk := (Walks.list (prog := P) (w := w) (A := A.in1.in1.in1) (by simp [calm]) (withSet w s).heap.objs.size l apart1 its).toS
  refine set_update_ints walk s.heap.objs.size apart2 ns len few each its.size 0 _ (by omega) (Nat.zero_le _) ⟨⟨_, Heap.get?_push_size _ rfl, rfl, rfl⟩, il.push _⟩ ⟨0, Nat.le_refl 0, setR_new_at (Heap.get?_push_of_some _ (set_made w s))⟩ fun s' c' mv hc' hS' => ?_
  obtain ⟨h', g', d', tk', os'⟩ := s'
  cases (show g' = s.gens from mv.gens)
  cases (show d' = s.drawn from mv.drawn)
  cases (show os' = s.os from mv.os)
  show wpAny _ _ _ _ _ _
  refine wpAny_pure ?_
  show wpAny _ _ (ret Value.none) _ _ _
  refine wpAny_pure ⟨rfl, z h' tk' c' hS' (by omega) fun b o e => ?_⟩
  have lt : b < s.heap.objs.size := Heap.lt_size e
  refine mv.heap b o ?_ (Heap.get?_push_of_some _ (Heap.get?_push_of_some _ e))
  simp only [List.mem_cons, List.not_mem_nil, or_false, not_or]
  exact ⟨Nat.ne_of_lt lt, by rw [sz1]; exact Nat.ne_of_lt (Nat.lt_succ_of_lt lt)⟩
end
section
variable {X : Cx}
/-- set(xs) of a list of ints -/
def rSetInts (K : PySem.W.Frag) (w : World) : List V → Hp → VK → Prop := fun xs H Q => ∃ (a : Addr) (ns : List Int), xs = [.ref a] ∧ SqL K H a (ns.map V.int) ∧ ns.length < 4000 ∧ ∀ p c, H p = none → c ≤ ns.length → Q (.ref p) (upd H p (SetO w p (fun j => decide (j ∈ ns)) c))
theorem cr_setInts (hc : X.calm = true) : CallR X (.type "set") (rSetInts X.K X.w) := by
  intro pins s σ H xs us Q I r h
  obtain ⟨a, ns, rfl, hs, h4, q⟩ := h
  obtain ⟨its, rv, hl, _⟩ := I.list hs
  rw [Vals.ref1 r]
  refine fill_list ns (I.ok.hd hc) hl.isList (by simpa using rv.ints) (by unfold scanBound; omega) fun h' tk c R hle kp => ?_
  exact ⟨.ref s.heap.objs.size, _, I.laid kp (Nat.le_refl _) (setO_new R), rfl, q _ c (I.hok.fresh (Nat.le_refl _)) hle⟩
/-- sum of a tuple of ints -/
def rSumT (K : PySem.W.Frag) : List V → Hp → VK → Prop := fun vs H Q => ∃ (a : Addr) (ns : List Int), vs = [V.ref a] ∧ SqT K H a (ns.map V.int) ∧ Q (.int ns.sum) H
theorem cr_sumT (hc : X.calm = true) : CallR X (.builtin "sum") (rSumT X.K) := by
  intro pins s σ H vs us Q I r h
  obtain ⟨a, ns, rfl, hs, q⟩ := h
  obtain ⟨its, rv, ht, _⟩ := I.tuple hs
  rw [Vals.ref1 r]
  have hi := rv.ints
  obtain ⟨xs, e⟩ := hi.allInts.items
  have hn : numsOf (intItems xs).toList = ns := by rw [← e]; exact hi.numsOf
  rw [nums_intItems] at hn
  rw [e] at ht
  refine PySem.W.ktm_sumG (I.ok.hd hc) ht fun h' tk t' hk => ?_
  refine ⟨.int ns.sum, H, I.kept hk, ⟨t', ?_⟩, q⟩
  rw [preSum_eq, List.take_of_length_le (by simp), hn]
end
end
end VL
set_option maxHeartbeats 8000000
namespace VL
noncomputable section
open PySem PySem.Spec PyProof.Rows L2
open GxR (TabB TabG Tabbed)
/-! ### sorted, sets of ints -/
def sortI (ns : List Int) : List Int := ns.mergeSort fun a b => decide (a ≤ b)
theorem sortI_perm (ns : List Int) : (sortI ns).Perm ns := List.mergeSort_perm _ _
theorem sortI_le (ns : List Int) : (sortI ns).Pairwise (· ≤ ·) := by
  have h := List.pairwise_mergeSort (le := fun a b : Int => decide (a ≤ b)) (by intro a b c h1 h2; simp only [decide_eq_true_eq] at *; omega) (by intro a b; simp only [Bool.or_eq_true, decide_eq_true_eq]; omega) ns
  exact h.imp fun h => of_decide_eq_true h
theorem sortI_uniq {ns ms : List Int} (h : ms.Perm ns) (s : ms.Pairwise (· ≤ ·)) : ms = sortI ns :=
  List.Perm.eq_of_pairwise (fun a b _ _ h1 h2 => Int.le_antisymm h1 h2) s (sortI_le ns) (h.trans (sortI_perm ns).symm)
def dedI : List Int → List Int
  | [] => []
  | x :: xs => if x ∈ xs then dedI xs else x :: dedI xs
theorem dedI_mem {k : Int} : ∀ {ns : List Int}, k ∈ dedI ns ↔ k ∈ ns
  | [] => Iff.rfl
  | x :: xs => by
    unfold dedI
    split
    · rename_i h
      rw [dedI_mem, List.mem_cons]
      exact ⟨.inr, fun z => z.elim (fun z => by rw [z]; exact h) id⟩
    · rw [List.mem_cons, List.mem_cons, dedI_mem]
theorem dedI_nodup : ∀ (ns : List Int), (dedI ns).Nodup
  | [] => List.nodup_nil
  | x :: xs => by
    unfold dedI
    split
    · exact dedI_nodup xs
    · rename_i h
      exact List.nodup_cons.mpr ⟨fun z => h (dedI_mem.mp z), dedI_nodup xs⟩
def setI (ns : List Int) : List Int := sortI (dedI ns)
theorem setI_mem {k : Int} {ns : List Int} : k ∈ setI ns ↔ k ∈ ns := by
  unfold setI
  rw [(sortI_perm _).mem_iff, dedI_mem]
theorem setI_nodup (ns : List Int) : (setI ns).Nodup := (sortI_perm _).nodup_iff.mpr (dedI_nodup ns)
theorem setI_lt (ns : List Int) : (setI ns).Pairwise (· < ·) := by
  have h1 : (setI ns).Pairwise (· ≤ ·) := sortI_le _
  have h2 : (setI ns).Pairwise (· ≠ ·) := setI_nodup ns
  exact (h1.and h2).imp fun ⟨a, b⟩ => by omega
theorem lt_le {ms : List Int} (s : ms.Pairwise (· < ·)) : ms.Pairwise (· ≤ ·) := s.imp fun h => by omega
theorem lt_nodup {ms : List Int} (s : ms.Pairwise (· < ·)) : ms.Nodup := s.imp fun h => by omega
theorem setI_uniq {ns ms : List Int} (s : ms.Pairwise (· < ·)) (h : ∀ k, k ∈ ms ↔ k ∈ ns) : ms = setI ns :=
  sortI_uniq ((List.perm_ext_iff_of_nodup (lt_nodup s) (dedI_nodup ns)).mpr fun k => (h k).trans dedI_mem.symm) (lt_le s)
theorem dedI_le : ∀ (ns : List Int), (dedI ns).length ≤ ns.length
  | [] => Nat.le_refl _
  | x :: xs => by
    unfold dedI
    split
    · exact Nat.le_succ_of_le (dedI_le xs)
    · exact Nat.succ_le_succ (dedI_le xs)
section
variable {G : Gb} {X : Cx} {H : Hp} {pos p p2 q : Pos} {e : Expr} {M : List Nat} {k : Kind} {f : EF}
theorem seq_ints {d : D} {ds : List D} {ns : List Int} {v : V} {F : List Addr} (e : d.items = some ds) (e2 : intsD ds = some ns) (r : Rds G H d v F) : ∃ a, v = .ref a ∧ ((SqL G.K H a (ns.map V.int) ∧ ∀ ds, d ≠ .tup ds) ∨ SqT G.K H a (ns.map V.int)) := by
  obtain ⟨a, us, A, rfl, h1, h2, h3⟩ := rds_items e r
  rw [intsD_of e2] at h1
  obtain ⟨rfl, rfl⟩ := rdsL_ints h1
  exact ⟨a, rfl, h3.imp id And.left⟩
def pSumA : List D → Option D
  | [d] => match d.items with
    | some ds => (intsD ds).map fun ns => .int ns.sum
    | none => none
  | _ => none
abbrev rSumAll (K : PySem.W.Frag) : List V → Hp → VK → Prop := fun vs H Q => rSum K vs H Q ∨ rSumT K vs H Q
theorem call_sumAll (x : XOk G X) : CallR X (.builtin "sum") (rSumAll X.K) := (cr_sum x.calm).or (cr_sumT x.calm)
theorem prim_sumA (hK : X.K = G.K) : PrimF G (rSumAll X.K) pSumA := fun H vs ds F Q d tb r e q => by
  rw [hK]
  unfold pSumA at e
  split at e
  · rename_i d1
    split at e
    · rename_i es e1
      cases e2 : intsD es with
      | none => rw [e2] at e; cases e
      | some ns =>
        rw [e2] at e
        cases e
        obtain ⟨v, rfl, h1⟩ := rdsL1 r
        obtain ⟨a, rfl, h2⟩ := seq_ints e1 e2 h1
        rcases h2 with ⟨h2, _⟩ | h2
        · exact .inl ⟨a, ns, rfl, h2, q_atom (hInt _) q⟩
        · exact .inr ⟨a, ns, rfl, h2, q_atom (hInt _) q⟩
    · cases e
  · cases e
/-- sorted(x) of a list of ints -/
def pSortedI : List D → Option D
  | [.lst ds] => match intsD ds with
    | some ns => if ns.length < 64 then some (.lst ((sortI ns).map .int)) else none
    | none => none
  | _ => none
theorem q_newF {Q : VK} {ds : List D} {vs : List V} {a : Addr} (np : H a = none) (r : RdsL G H ds vs []) (q : ∀ v H' A, Rds G H' (.lst ds) v A → A.Nodup → (∀ a ∈ A, H a = none) → Chg No H H' → Q v H') : Q (.ref a) (upd H a (.lst vs)) :=
  q_new (d := .non) np r q
theorem prim_sortedI (hK : X.K = G.K) : PrimF G (rSorted X.K) pSortedI := fun H vs ds F Q d tb r e q => by
  rw [hK]
  unfold pSortedI at e
  split at e
  · rename_i xs
    split at e
    · rename_i ns e2
      split at e
      · rename_i hl
        cases e
        obtain ⟨v, rfl, h1⟩ := rdsL1 r
        obtain ⟨a, us, A, rfl, h3, h4, rfl⟩ := rds_lst.mp h1
        rw [intsD_of e2] at h4
        obtain ⟨rfl, rfl⟩ := rdsL_ints h4
        refine ⟨a, ns, rfl, SqL.of h3, hl, fun ms b hp hs hb => ?_⟩
        rw [sortI_uniq hp hs]
        exact q_newF hb (rdsL_mk_ints _) q
      · cases e
    · cases e
  · cases e
/-- sorted(set(x)) -/
abbrev rSoSet (K : PySem.W.Frag) (w : World) : List V → Hp → VK → Prop := fun vs H Q => rSetInts K w vs H fun v H1 => rSortedSet w [v] H1 Q
def pSoSet : List D → Option D
  | [.lst ds] => match intsD ds with
    | some ns => if ns.length < 64 then some (.lst ((setI ns).map .int)) else none
    | none => none
  | _ => none
theorem prim_soSet (hK : X.K = G.K) : PrimF G (rSoSet X.K X.w) pSoSet := fun H vs ds F Q d tb r e q => by
  rw [hK]
  unfold pSoSet at e
  split at e
  · rename_i xs
    split at e
    · rename_i ns e2
      split at e
      · rename_i hl
        cases e
        obtain ⟨v, rfl, h1⟩ := rdsL1 r
        obtain ⟨a, us, A, rfl, h3, h4, rfl⟩ := rds_lst.mp h1
        rw [intsD_of e2] at h4
        obtain ⟨rfl, rfl⟩ := rdsL_ints h4
        refine ⟨a, ns, rfl, SqL.of h3, by omega, fun b c hb hc => ⟨b, _, c, rfl, upd_same, by omega, fun ms b2 s m _ hb2 => ?_⟩⟩
        have em := setI_uniq (ns := ns) s fun k => (m k).trans (by simp)
        rw [em]
        have c1 : Chg No H (upd H b (SetO X.w b (fun j => decide (j ∈ ns)) c)) := Chg.new hb
        have c2 := c1.trans (Chg.new (M := No) (u := .lst ((setI ns).map V.int)) hb2)
        refine q _ _ [b2] (rds_lst.mpr ⟨b2, _, [], rfl, upd_same, rdsL_mk_ints _, rfl⟩) (by simp) (fun z hz => ?_) (c2.mono fun _ _ _ z => z.elim id id)
        rw [List.mem_singleton.mp hz]
        exact c1.back hb2
      · cases e
    · cases e
  · cases e
theorem ve_soSet (x : XOk G X) (hg : Gl X "sorted") (hm : X.mg "sorted" = none) (hg2 : Gl X "set") (hm2 : X.mg "set" = none) (he : VE G X e M k f) (na : starEach [e] X.env = (false, eval e X.env) :: starEach [] X.env := by rfl) :
    VE G X (.Call (.Name "sorted" p) [.Call (.Name "set" p2) [e] [] q] [] pos) M .own (ePrim pSoSet (lCons f lNil)) :=
  PE.imp (pe_callB (cr_sortedSet x.calm) hg hm (show bootBuiltins "sorted" = some (.builtin "sorted") from by decide +kernel) (pa_cons (pe_callTy (cr_setInts x.calm) hg2 hm2 boot_set (pa_cons he pa_nil na) (by decide) (by decide) na) pa_nil)) fun σ H Q h =>
    (one_of (prim_own (prim_soSet x.K) h)).mono fun v H1 h1 => h1
/-- len(set(x)) -/
def rLenSetO (w : World) : List V → Hp → VK → Prop := fun vs H Q => ∃ (a : Addr) (ns : List Int) (c : Nat), vs = [.ref a] ∧ H a = some (SetO w a (fun j => decide (j ∈ ns)) c) ∧ Q (.int ((dedI ns).length : Nat)) H
theorem setR_card {w : World} {h : Heap} {a : Addr} {ns : List Int} {c : Nat} (R : SetR w h a (fun j => decide (j ∈ ns)) c) : c = (dedI ns).length := by
  obtain ⟨o, es, ep, t, _, _, _, _, h5, h6, _, _, h9, _⟩ := R
  have pm : (es.toList.map keyOf).Perm (dedI ns) := (List.perm_ext_iff_of_nodup h5 (dedI_nodup ns)).mpr fun k => by rw [← h6 k, dedI_mem]; simp
  have := pm.length_eq
  rw [List.length_map, Array.length_toList] at this
  omega
theorem cr_lenSetO : CallR X (.builtin "len") (rLenSetO X.w) := by
  intro pins s σ H vs us Q I r h
  obtain ⟨a, ns, c, rfl, ha, q⟩ := h
  have R := setO_get I ha
  rw [Vals.ref1 r]
  have ec := setR_card R
  obtain ⟨o, es, ep, t, ho, h2, h3, _, _, _, h7, h8, h9, _⟩ := R
  exact call_len_set ho h2 h3 h8 (by unfold scanBound at h7; omega) ⟨.int ((dedI ns).length : Nat), H, I.tok _, ⟨_, by rw [h9, ec]⟩, q⟩
abbrev rLenSet (K : PySem.W.Frag) (w : World) : List V → Hp → VK → Prop := fun vs H Q => rSetInts K w vs H fun v H1 => rLenSetO w [v] H1 Q
def pLenSet : List D → Option D
  | [.lst ds] => match intsD ds with
    | some ns => if ns.length < 4000 then some (.int ((dedI ns).length : Nat)) else none
    | none => none
  | _ => none
theorem prim_lenSet (hK : X.K = G.K) : PrimF G (rLenSet X.K X.w) pLenSet := fun H vs ds F Q d tb r e q => by
  rw [hK]
  unfold pLenSet at e
  split at e
  · rename_i xs
    split at e
    · rename_i ns e2
      split at e
      · rename_i hl
        cases e
        obtain ⟨v, rfl, h1⟩ := rdsL1 r
        obtain ⟨a, us, A, rfl, h3, h4, rfl⟩ := rds_lst.mp h1
        rw [intsD_of e2] at h4
        obtain ⟨rfl, rfl⟩ := rdsL_ints h4
        refine ⟨a, ns, rfl, SqL.of h3, hl, fun b c hb hc => ⟨b, ns, c, rfl, upd_same, ?_⟩⟩
        exact q _ _ [] (rds_int.mpr ⟨rfl, rfl⟩) List.nodup_nil (fun z hz => by cases hz) (Chg.new hb)
      · cases e
    · cases e
  · cases e
theorem ve_lenSet (x : XOk G X) (hg : Gl X "len") (hm : X.mg "len" = none) (hg2 : Gl X "set") (hm2 : X.mg "set" = none) (he : VE G X e M k f) (na : starEach [e] X.env = (false, eval e X.env) :: starEach [] X.env := by rfl) :
    VE G X (.Call (.Name "len" p) [.Call (.Name "set" p2) [e] [] q] [] pos) M .own (ePrim pLenSet (lCons f lNil)) :=
  PE.imp (pe_callB cr_lenSetO hg hm boot_len (pa_cons (pe_callTy (cr_setInts x.calm) hg2 hm2 boot_set (pa_cons he pa_nil na) (by decide) (by decide) na) pa_nil)) fun σ H Q h =>
    (one_of (prim_own (prim_lenSet x.K) h)).mono fun v H1 h1 => h1
/-! ### x[::-1] of a list -/
def pRevL : List D → Option D
  | [.lst ds] => some (.lst ds.reverse)
  | _ => none
theorem rdsL_rev : ∀ {ds : List D} {vs : List V} {F : List Addr}, RdsL G H ds vs F → ∃ A, RdsL G H ds.reverse vs.reverse A ∧ A.Perm F
  | [], _, _, h => by
    obtain ⟨rfl, rfl⟩ := rdsL_nil.mp h
    exact ⟨[], rdsL_nil.mpr ⟨rfl, rfl⟩, List.Perm.refl _⟩
  | d :: ds, _, _, h => by
    obtain ⟨x, r, A, B, rfl, rfl, h1, h2⟩ := rdsL_cons.mp h
    obtain ⟨A', h3, h4⟩ := rdsL_rev h2
    rw [List.reverse_cons, List.reverse_cons]
    refine ⟨A' ++ (A ++ []), rdsL_app h3 (rdsL_cons.mpr ⟨x, [], A, [], rfl, rfl, h1, rdsL_nil.mpr ⟨rfl, rfl⟩⟩), ?_⟩
    rw [List.append_nil]
    exact List.perm_append_comm.trans (h4.append_left A)
theorem prim_revL (hK : X.K = G.K) : PrimV G (fun vs H Q => ∃ x, vs = [x] ∧ ∃ a xs, x = .ref a ∧ SqL X.K H a xs ∧ ∀ p, H p = none → Q (.ref p) (upd H p (.lst xs.reverse))) pRevL := fun H vs ds F Q d tb r e q => by
  rw [hK]
  unfold pRevL at e
  split at e
  · rename_i xs
    cases e
    obtain ⟨v, rfl, h1⟩ := rdsL1 r
    obtain ⟨a, us, A, rfl, h3, h4, rfl⟩ := rds_lst.mp h1
    refine ⟨_, rfl, a, us, rfl, SqL.of h3, fun b hb => ?_⟩
    obtain ⟨A', h5, h6⟩ := rdsL_rev h4
    have c : Chg No H (upd H b (.lst us.reverse)) := Chg.new hb
    refine q _ _ (b :: A') (rds_lst.mpr ⟨b, _, A', rfl, upd_same, RdsL.chg c _ _ _ (fun _ _ z => z) h5, rfl⟩) (fun nd => ?_) (fun z hz => ?_) (fun z t _ ez => ?_) c
    · refine List.nodup_cons.mpr ⟨fun z => ?_, h6.nodup_iff.mpr (List.nodup_cons.mp nd).2⟩
      obtain ⟨o, eo, _⟩ := RdsL.trk _ _ _ h5 b z
      rw [hb] at eo
      cases eo
    · rcases List.mem_cons.mp hz with rfl | hz
      · exact .inr hb
      · exact .inl (List.mem_cons_of_mem _ (h6.mem_iff.mp hz))
    · cases ez
      exact hb
  · cases e
theorem ve_revL (x : XOk G X) {j : Nat} {p1 p2 p3 : Pos} (he : VE G X e M k f) : VE G X (.Subscript e (.Slice none none (some (.UnaryOp .USub (.Constant (.int 1) j p1) p2)) p3) pos) M (kTop [k]) (ePrim pRevL (lCons f lNil)) :=
  PE.imp (pe_revL he) fun σ H Q h => (one_of (prim_top (prim_revL x.K) h)).mono fun v H1 ⟨x', e', h1⟩ => by
    cases e'
    exact h1
/-! ### a, b = a list -/
def gSeqE (n : Nat) (gs : List D → Env → Option Env) : D → Env → Option Env
  | .tup ds, E => if ds.length = n then gs ds E else none
  | .lst ds, E => if ds.length = n then gs ds E else none
  | _, _ => none
end
theorem BOk.lt {G : Gb} {C : Ctx} {σ : L2.St} {E : Env} {Fs : Nat → List Addr} {bk : BK} {d : D} {v : V} {H1 : Hp} {a : Addr} {F : List Addr} (h : BOk σ C H1 E Fs bk d v (a :: F)) : BOkL C H1 E Fs bk F := by
  have vw : ∀ {S}, Vw H1 E Fs S (a :: F) → Vw H1 E Fs S F := fun z b hb => z b (List.mem_cons_of_mem _ hb)
  cases bk with
  | pr b => exact ⟨fun b hb => h.1 b (List.mem_cons_of_mem _ hb), fun z b hb => h.2 z b (List.mem_cons_of_mem _ hb)⟩
  | ex k =>
    cases k with
    | own => exact ⟨(List.nodup_cons.mp h.1).2, vw h.2⟩
    | sub i => exact ⟨h.1, (List.sublist_cons_self a F).trans h.2⟩
    | ref i =>
      obtain ⟨m, e, _, e2⟩ := h
      exact ⟨⟨m, d, e⟩, by rw [← e2]; exact List.sublist_cons_self a F⟩
    | top S => exact vw h.1
    | vw S => exact vw h
section
variable {G : Gb} {X : Cx} {pos : Pos}
theorem PG.or {e : Expr} {t t' : TG} (h : PG X e t) (h' : PG X e t') : PG X e (fun v σ H Q => t v σ H Q ∨ t' v σ H Q) := ⟨fun pins s σ H v u Q I r q => q.elim (h.run pins s σ H v u Q I r) (h'.run pins s σ H v u Q I r)⟩
theorem vs_unp (x : XOk G X) {ro : Bool} {es : List Expr} {e : Expr} {M W : List Nat} {j n : Nat} {k : Kind} {f : EF} {gs : List D → Env → Option Env} {tpos : Pos} (he : VE G X e M k f) (h : VGs G X es (.ex k) W gs) (hn : (assignEach es X.env).length = n := by rfl) (hst : (assignEach es X.env).findIdx? (·.1) = none := by rfl)
    (hs : swapsWithSole [.Tuple es j tpos] e pos.line X.env = pure false := by rfl) (hw : swappedStores [.Tuple es j tpos] e X.env = pure none := by rfl) (h1 : (assignEach [.Tuple es j tpos] X.env).map (·.2) = [assign (.Tuple es j tpos) X.env] := by rfl) :
    VS G X ro (.Assign [.Tuple es j tpos] e pos) (sAsg f (gSeqE n gs)) := PS.imp (ps_asg he (PG.or (pg_tup x.calm h hn hst) (pg_unl x.calm h hn hst)) hs hw h1) fun N σ H ⟨C, E, Fs, R, o, e, q⟩ => by
  unfold sAsg at e
  split at e
  · rename_i d E1 e1
    split at e
    · rename_i E2 e2
      cases e
      refine ⟨C, E, Fs, R, d, E1, e1, fun v H' Fs' F R' s' r' k' => ?_⟩
      have bo : BOk σ C H E1 Fs' (.ex k) d v F := k'
      unfold gSeqE at e2
      split at e2
      · rename_i ds
        split at e2
        · rename_i hl
          obtain ⟨a, xs, rfl, h1, h2⟩ := rds_tup.mp r'
          rw [x.K]
          exact .inl ⟨a, xs, rfl, h1, by rw [rdsL_len h2]; exact hl, C, E1, Fs', H, F, ds, R', R.hn, h2, bo.l, E2, e2, fun σ2 Fs2 R2 _ => q σ2 H' Fs2 R2⟩
        · cases e2
      · rename_i ds
        split at e2
        · rename_i hl
          obtain ⟨a, xs, A, rfl, h1, h2, rfl⟩ := rds_lst.mp r'
          rw [x.K]
          exact .inr ⟨a, xs, rfl, SqL.of h1, by rw [rdsL_len h2]; exact hl, C, E1, Fs', H, A, ds, R', R.hn, h2, BOk.lt (G := G) bo, E2, e2, fun σ2 Fs2 R2 _ => q σ2 H' Fs2 R2⟩
        · cases e2
      · cases e2
    · cases e
  · cases e
/-! ### and, or, not as values -/
def eAnd (f g : EF) : EF := fun E => match f E with
  | some (d, E') => (match d.tru with
    | some true => g E'
    | some false => some (d, E')
    | none => none)
  | none => none
def eOr (f g : EF) : EF := fun E => match f E with
  | some (d, E') => (match d.tru with
    | some true => some (d, E')
    | some false => g E'
    | none => none)
  | none => none
def eNot (f : EF) : EF := fun E => match f E with
  | some (d, E') => (match d.tru with
    | some b => some (.bl (!b), E')
    | none => none)
  | none => none
variable {a b e : Expr} {rest : List Expr} {M M' : List Nat} {k k' : Kind} {f g : EF}
theorem ve_one {op} (h : VE G X a M k f) : VE G X (.BoolOp op [a] pos) M k f := pe_one h
theorem ve_and (x : XOk G X) (ha : VE G X a M k f) (hb : VE G X (.BoolOp .And (b :: rest) pos) M' k' g) : VE G X (.BoolOp .And (a :: b :: rest) pos) (M ++ M') (kIf k k') (eAnd f g) := PE.imp (pe_andT ha hb) fun σ H Q ⟨C, E, Fs, R, d, E', e, q⟩ => by
  unfold eAnd at e
  split at e
  · rename_i d1 E1 e1
    refine ⟨C, E, Fs, R, d1, E1, e1, fun v H1 Fs1 F1 R1 s1 r1 k1 => ?_⟩
    rw [x.K]
    split at e
    · rename_i ht
      exact ⟨true, tru_of ht r1, by rw [if_pos rfl]; exact ⟨C, E1, Fs1, R1, d, E', e, fun v2 H2 Fs2 F2 R2 s2 r2 k2 => q v2 H2 Fs2 F2 R2 (s1.trans s2) r2 (kIf_r (k2.base s1.chg))⟩⟩
    · rename_i ht
      cases e
      exact ⟨false, tru_of ht r1, by rw [if_neg Bool.false_ne_true]; exact q v H1 Fs1 F1 R1 (s1.mono fun i hi => List.mem_append_left _ hi) r1 (kIf_l k1)⟩
    · cases e
  · cases e
theorem ve_or (x : XOk G X) (ha : VE G X a M k f) (hb : VE G X (.BoolOp .Or (b :: rest) pos) M' k' g) : VE G X (.BoolOp .Or (a :: b :: rest) pos) (M ++ M') (kIf k k') (eOr f g) := PE.imp (pe_orT ha hb) fun σ H Q ⟨C, E, Fs, R, d, E', e, q⟩ => by
  unfold eOr at e
  split at e
  · rename_i d1 E1 e1
    refine ⟨C, E, Fs, R, d1, E1, e1, fun v H1 Fs1 F1 R1 s1 r1 k1 => ?_⟩
    rw [x.K]
    split at e
    · rename_i ht
      cases e
      exact ⟨true, tru_of ht r1, by rw [if_pos rfl]; exact q v H1 Fs1 F1 R1 (s1.mono fun i hi => List.mem_append_left _ hi) r1 (kIf_l k1)⟩
    · rename_i ht
      exact ⟨false, tru_of ht r1, by rw [if_neg Bool.false_ne_true]; exact ⟨C, E1, Fs1, R1, d, E', e, fun v2 H2 Fs2 F2 R2 s2 r2 k2 => q v2 H2 Fs2 F2 R2 (s1.trans s2) r2 (kIf_r (k2.base s1.chg))⟩⟩
    · cases e
  · cases e
theorem ve_not (x : XOk G X) (ha : VE G X a M k f) : VE G X (.UnaryOp .Not a pos) M .own (eNot f) := PE.imp (pe_notT ha) fun σ H Q ⟨C, E, Fs, R, d, E', e, q⟩ => by
  unfold eNot at e
  split at e
  · rename_i d1 E1 e1
    refine ⟨C, E, Fs, R, d1, E1, e1, fun v H1 Fs1 F1 R1 s1 r1 k1 => ?_⟩
    rw [x.K]
    split at e
    · rename_i bb ht
      cases e
      exact ⟨bb, tru_of ht r1, q _ H1 Fs1 [] R1 s1 (rds_bl.mpr ⟨rfl, rfl⟩) ⟨List.nodup_nil, fun a ha => by cases ha⟩⟩
    · cases e
  · cases e
end
end
end VL
set_option maxHeartbeats 8000000
namespace VL
noncomputable section
open PySem PySem.Spec PyProof.Rows L2
open GxR (TabB TabG Tabbed)
section
variable {G : Gb} {X : Cx}
/-- an item set, as a target -/
def gSetIt (i : Nat) (k : Kind) (pf : PF) (g : EF) : D → Env → Option Env := fun d E1 => match pf E1 with
  | some (p, E2) => if hasP E2 i p then (match g E2 with
    | some (ix, E3) => if storable k d && ix.atom then (match E3[i]? with
      | some (some (m, dd)) => if m.w then (match getP p dd with
        | some sd => (match opSet sd [ix, d] with
          | some (sd', _) => (match setP p dd sd' with
            | some d' => some (E3.set i (some (m, d')))
            | none => none)
          | none => none)
        | none => none) else none
      | _ => none) else none
    | none => none) else none
  | none => none
def tGSet (G : Gb) (i : Nat) (k : Kind) (pf : PF) (g : EF) : TG := fun vv σ H1 Qn => ∃ C E1 Fs1 Ha B d, Rel G C H1 σ E1 Fs1 ∧ (∀ a, Ha a = none → C.H0 a = none ∧ ¬ C.T a) ∧ Rds G H1 d vv B ∧ KOk σ Ha E1 Fs1 k d vv B ∧
  ∃ E', gSetIt i k pf g d E1 = some E' ∧ ∀ H' Fs', Rel G C H' σ E' Fs' → Qn σ H'
theorem pg_setIt {o ix : Expr} {i : Nat} {k k' : Kind} {g : EF} {pf : PF} {pos' : Pos} (x : XOk G X) (ho : VP G X o [] i pf) (hi : VE G X ix [] k' g)
    (ha : ∀ v, assign (.Subscript o ix pos') X.env v = (do
      let ov ← holding [v] (eval o X.env)
      let iv ← holding [v, ov] (eval ix X.env)
      standAt pos'
      holding [v, ov, iv] (setItem ov iv v)
      release [v, ov, iv] []) := by intro _; rfl) : PG X (.Subscript o ix pos') (tGSet G i k pf g) :=
  PG.imp (pg_sub ho hi (pset_all x) ha) fun vv σ H1 Qn ⟨C, E1, Fs1, Ha, B, d, R1, hn, rv, kv, E', e, q⟩ => by
    unfold gSetIt at e
    split at e
    · rename_i p E2 e2
      split at e
      · rename_i hh
        split at e
        · rename_i ixd E3 e3
          split at e
          · rename_i hst
            split at e
            · rename_i m dd e4
              split at e
              · rename_i hw
                split at e
                · rename_i sd e5
                  split at e
                  · rename_i sd' rr e6
                    split at e
                    · rename_i d' e7
                      cases e
                      rw [Bool.and_eq_true] at hst
                      refine ⟨C, E1, Fs1, R1, p, E2, e2, hasP_of hh, fun H2 Fs2 m1 d1 v sd1 sv Pf A S R2 s2 em ev hf => ?_⟩
                      refine ⟨C, E2, Fs2, R2, ixd, E3, e3, fun iv H3 Fs3 F3 R3 s3 r3 k3 => ?_⟩
                      obtain ⟨rv2, kv2⟩ := kv.step R1 rv s2 (safe_nil k)
                      obtain ⟨rv3, kv3⟩ := kv2.step R2 rv2 s3 (safe_nil k)
                      have em3 : E3[i]? = some (some (m1, d1)) := by rw [s3.env i (by simp)]; exact em
                      rw [e4] at em3
                      cases em3
                      have fs3 := s3.fs i (by simp)
                      have hf3 := Foc.chg s3.chg (fun a _ ⟨j, hj, _⟩ => by cases hj) hf
                      rw [← fs3] at hf3
                      have g1 := foc_det hf3
                      rw [e5] at g1
                      cases g1
                      obtain ⟨eF, rd3⟩ := foc_rds hf3
                      have nd3 := (R3.nd i m dd e4 hw).1
                      have ndA : A.Nodup := by
                        rw [eF] at nd3
                        exact ((List.sublist_append_left A S).trans (List.sublist_append_right Pf _)).nodup nd3
                      have inA : ∀ a ∈ A, a ∈ Fs3 i := fun a ha => by rw [eF]; simp [ha]
                      obtain ⟨ndB, loB⟩ := storL_ok (C := C) (show storL [k] [d] = true from hst.1) (G := G) (σ := σ) (H := Ha) (H1 := H3) (E := E3) (Fs := Fs3) (vs := [vv]) (FF := [B]) ⟨d, [], vv, [], B, [], rfl, rfl, rfl, rv3, kv3, fun j B' hB => by simp at hB, rfl, rfl, rfl⟩
                      simp only [List.flatten_cons, List.flatten_nil, List.append_nil] at ndB loB
                      have eI := Rds.atom _ _ _ hst.2 r3
                      subst eI
                      have ofB : ∀ {a}, a ∈ B → a ∉ Fs3 i := fun {a} hb hm => (loB a hb).2 i ⟨m, dd, e4⟩ hm
                      have fin4 : ∀ (v3 : V) (H4 : Hp) (A' : List Addr), Rds G H4 sd' sv A' → Rds G H4 rr v3 [] → A'.Nodup → (∀ a ∈ A', a ∈ A ∨ a ∈ B) → Chg (fun a => a ∈ A) H3 H4 → Qn σ H4 := fun v3 H4 A' rA' rR ndA' inA' c4 => by
                        have rd4 := foc_set hf3 nd3 c4 rA' e7
                        have c4' : Chg (fun a => a ∈ Fs3 i) H3 H4 := c4.mono fun q o _ h => inA q h
                        have ndN : (Pf ++ (A' ++ S)).Nodup := by
                          have ndF' := nd3
                          rw [eF, List.nodup_append] at ndF'
                          obtain ⟨n1, n2, n3⟩ := ndF'
                          rw [List.nodup_append] at n2
                          obtain ⟨_, n5, n6⟩ := n2
                          rw [List.nodup_append]
                          refine ⟨n1, ?_, fun a ha b hb eab => ?_⟩
                          · rw [List.nodup_append]
                            refine ⟨ndA', n5, fun a ha b hb eab => ?_⟩
                            subst eab
                            rcases inA' a ha with y | y
                            · exact n6 a y a hb rfl
                            · exact ofB y (by rw [eF]; simp [hb])
                          · subst eab
                            rcases List.mem_append.mp hb with z | z
                            · rcases inA' a z with y | y
                              · exact n3 a ha a (by simp [y]) rfl
                              · exact ofB y (by rw [eF]; simp [ha])
                            · exact n3 a ha a (by simp [z]) rfl
                        refine q H4 _ (R3.write e4 hw ev c4' rd4 ndN fun a ha => ?_)
                        rw [eF]
                        simp only [List.mem_append] at ha ⊢
                        have byB : a ∈ B → C.H0 a = none ∧ ¬ C.T a ∧ ∀ j, j ≠ i → Asg E3 j → a ∉ Fs3 j := fun y => ⟨(hn a (loB a y).1).1, (hn a (loB a y).1).2, fun j _ hj => (loB a y).2 j hj⟩
                        rcases ha with z | z | z
                        · exact .inl (.inl z)
                        · rcases inA' a z with y | y
                          · exact .inl (.inr (.inl y))
                          · exact .inr (byB y)
                        · exact .inl (.inr (.inr z))
                      obtain ⟨_, _, ez, fin⟩ := mut_set H3 sd sv A [ixd, d] [iv, vv] B (fun _ H' => Qn σ H') sd' rr rd3 (rdsL_cons.mpr ⟨iv, _, [], B, rfl, rfl, r3, rdsL_cons.mpr ⟨vv, [], B, [], rfl, by simp, rv3, rdsL_nil.mpr ⟨rfl, rfl⟩⟩⟩) ndA ndB (fun a ha hb => ofB hb (inA a ha)) e6 (by
                          unfold opSet at e6
                          split at e6
                          · split at e6
                            · cases e6
                              rfl
                            · cases e6
                          · split at e6
                            · split at e6
                              · cases e6
                                rfl
                              · cases e6
                            · cases e6
                          · cases e6) fin4
                      cases ez
                      exact fin
                    · cases e
                  · cases e
                · cases e
              · cases e
            · cases e
          · cases e
        · cases e
      · cases e
    · cases e
/-- o[i], name = a pair -/
def sPairSet (i : Nat) (pf : PF) (g : EF) (j : Nat) (f : EF) : SF := fun E => match f E with
  | some (.tup [.int a, .int b], E1) => (match gSetIt i .own pf g (.int a) E1 with
    | some E2 => if j < E2.length then some (.nx (E2.set j (some (.own, .int b)))) else none
    | none => none)
  | _ => none
theorem vs_pairSet {ro : Bool} {o ix e : Expr} {M : List Nat} {i j kk : Nat} {k k' : Kind} {f g : EF} {pf : PF} {y : Str} {pos pos' py tpos : Pos} (x : XOk G X) (he : VE G X e M k f) (ho : VP G X o [] i pf) (hi : VE G X ix [] k' g)
    (hN : X.N.Nodup) (hj : X.N[j]? = some y) (hx : Loc X.env.scope y) (hf : X.fn y = true ∨ X.env.scope.names.lookup y = some .local := by first | exact .inl rfl | exact .inr rfl | assumption)
    (ha : ∀ v, assign (.Subscript o ix pos') X.env v = (do
      let ov ← holding [v] (eval o X.env)
      let iv ← holding [v, ov] (eval ix X.env)
      standAt pos'
      holding [v, ov, iv] (setItem ov iv v)
      release [v, ov, iv] []) := by intro _; rfl)
    (hn : (assignEach [.Subscript o ix pos', .Name y py] X.env).length = 2 := by rfl) (hst : (assignEach [.Subscript o ix pos', .Name y py] X.env).findIdx? (·.1) = none := by rfl)
    (hs : swapsWithSole [.Tuple [.Subscript o ix pos', .Name y py] kk tpos] e pos.line X.env = pure false := by rfl) (hw : swappedStores [.Tuple [.Subscript o ix pos', .Name y py] kk tpos] e X.env = pure none := by rfl) (h1 : (assignEach [.Tuple [.Subscript o ix pos', .Name y py] kk tpos] X.env).map (·.2) = [assign (.Tuple [.Subscript o ix pos', .Name y py] kk tpos) X.env] := by rfl) :
    VS G X ro (.Assign [.Tuple [.Subscript o ix pos', .Name y py] kk tpos] e pos) (sPairSet i pf g j f) :=
  PS.imp (ps_asg he (pg_tup x.calm (pgs_cons (pg_setIt (k := .own) x ho hi ha) (pgs_cons (pg_name hN hj hx hf) pgs_nil)) hn hst) hs hw h1) fun N σ H ⟨C, E, Fs, R, o, e, q⟩ => by
    unfold sPairSet at e
    split at e
    · rename_i a b E1 e1
      split at e
      · rename_i E2 e2
        split at e
        · rename_i hl
          cases e
          refine ⟨C, E, Fs, R, _, E1, e1, fun v H' Fs' F R' s' r' k' => ?_⟩
          obtain ⟨t, xs, rfl, h1, h2⟩ := rds_tup.mp r'
          obtain ⟨x1, x2, A, B, rfl, rfl, h3, h4⟩ := rdsL2 h2
          obtain ⟨rfl, rfl⟩ := rds_int.mp h3
          obtain ⟨rfl, rfl⟩ := rds_int.mp h4
          rw [x.K]
          refine ⟨t, _, rfl, h1, rfl, _, _, rfl, C, E1, Fs', H, [], .int a, R', R.hn, rds_int.mpr ⟨rfl, rfl⟩, ⟨List.nodup_nil, fun z hz => by cases hz⟩, E2, e2, fun H2 Fs2 R2 => ⟨_, _, rfl, rfl, ?_⟩⟩
          exact q _ H2 _ (R2.setOwn (H1 := H2) hl R2.hn (rds_int.mpr ⟨rfl, rfl⟩) List.nodup_nil (fun z hz => by cases hz))
        · cases e
      · cases e
    · cases e
end
end
end VL
set_option maxHeartbeats 4000000
namespace VL
noncomputable section
open PySem PySem.Spec PyProof.Rows L2
open GxR (TabB TabG Tabbed)
theorem XOk.blk {G : Gb} {X : Cx} (x : XOk G X) {s : Shared} {H : Hp} {scope : Scope} {env : PySem.Env} {fp : List Addr} : XOk G (X.blk s H scope env fp) := ⟨x.K, x.calm, x.un⟩
theorem XOk.un64 {G : Gb} {X : Cx} (x : XOk G X) : X.A.units + 64 < cLine := by have := x.un; omega
theorem mt_popAll {X : Cx} : MtR X "list.pop" rPopAll := fun pins s σ H x xs v us Q I r1 r2 h => h.elim (mt_pop pins s σ H x xs v us Q I r1 r2) (mt_popAt pins s σ H x xs v us Q I r1 r2)
section
variable {G : Gb} {X : Cx}
/-- == and != : of texts, else of data -/
def pEq (neg : Bool) : List D → Option D
  | [.str a, .str b] => some (.bl (if neg then !decide (a = b) else decide (a = b)))
  | [.bl a, .bl b] => some (.bl (if neg then !decide (a = b) else decide (a = b)))
  | ds => pEqv neg ds
theorem op_eqAll (x : XOk G X) : OpR X (compareOp .Eq) (fun x y H Q => rEqD X.K x y H Q ∨ rEq x y H Q) := (op_eqD x.un64).or op_eq
theorem op_neAll (x : XOk G X) : OpR X (compareOp .NotEq) (fun x y H Q => rNeD X.K x y H Q ∨ rNe x y H Q) := (op_neD x.un64).or op_ne
theorem dec_strV {a b : Str} : decide (V.str a = V.str b) = decide (a = b) := by
  by_cases h : a = b <;> simp [h]
theorem dec_blV {a b : Bool} : decide (V.bl a = V.bl b) = decide (a = b) := by
  by_cases h : a = b <;> simp [h]
theorem prim_eqA (hK : X.K = G.K) : PrimF G (r2 fun x y H Q => rEqD X.K x y H Q ∨ rEq x y H Q) (pEq false) := fun H vs ds F Q d tb r e q => by
  unfold pEq at e
  split at e
  · cases e
    obtain ⟨x, y, A, B, rfl, rfl, h1, h2⟩ := rdsL2 r
    obtain ⟨rfl, rfl⟩ := rds_str.mp h1
    obtain ⟨rfl, rfl⟩ := rds_str.mp h2
    refine ⟨_, _, rfl, .inr ⟨rfl, ?_⟩⟩
    rw [dec_strV]
    exact q_atom (hBl _) q
  · cases e
    obtain ⟨x, y, A, B, rfl, rfl, h1, h2⟩ := rdsL2 r
    obtain ⟨rfl, rfl⟩ := rds_bl.mp h1
    obtain ⟨rfl, rfl⟩ := rds_bl.mp h2
    refine ⟨_, _, rfl, .inr ⟨rfl, ?_⟩⟩
    rw [dec_blV]
    exact q_atom (hBl _) q
  · obtain ⟨x, y, h, h1⟩ := prim_eq hK H vs _ F Q d tb r e q
    exact ⟨x, y, h, .inl h1⟩
theorem prim_neA (hK : X.K = G.K) : PrimF G (r2 fun x y H Q => rNeD X.K x y H Q ∨ rNe x y H Q) (pEq true) := fun H vs ds F Q d tb r e q => by
  unfold pEq at e
  split at e
  · cases e
    obtain ⟨x, y, A, B, rfl, rfl, h1, h2⟩ := rdsL2 r
    obtain ⟨rfl, rfl⟩ := rds_str.mp h1
    obtain ⟨rfl, rfl⟩ := rds_str.mp h2
    refine ⟨_, _, rfl, .inr ⟨rfl, ?_⟩⟩
    rw [dec_strV]
    exact q_atom (hBl _) q
  · cases e
    obtain ⟨x, y, A, B, rfl, rfl, h1, h2⟩ := rdsL2 r
    obtain ⟨rfl, rfl⟩ := rds_bl.mp h1
    obtain ⟨rfl, rfl⟩ := rds_bl.mp h2
    refine ⟨_, _, rfl, .inr ⟨rfl, ?_⟩⟩
    rw [dec_blV]
    exact q_atom (hBl _) q
  · obtain ⟨x, y, h, h1⟩ := prim_ne hK H vs _ F Q d tb r e q
    exact ⟨x, y, h, .inl h1⟩
/-! ### a slot handed in ahead of arguments that write it -/
def lRef (i : Nat) (g : LF) : LF := fun E => match E[i]? with
  | some (some _) => (match g E with
    | some (ds, E') => (match E'[i]? with
      | some (some (_, d)) => some (d :: ds, E')
      | _ => none)
    | none => none)
  | _ => none
theorem vl_ref {e : Expr} {es : List Expr} {M' : List Nat} {ks : List Kind} {i : Nat} {g : LF} (he : VE G X e [] (.ref i) (eVar i)) (hr : VL G X es M' ks g) (hs : starEach (e :: es) X.env = (false, eval e X.env) :: starEach es X.env := by rfl) : VL G X (e :: es) M' (.ref i :: ks) (lRef i g) :=
  PA.imp (pa_cons he hr hs) fun σ H Q ⟨C, E, Fs, R, ds, E', e, q⟩ => by
    unfold lRef at e
    split at e
    · rename_i p0 ei
      obtain ⟨m0, d0⟩ := p0
      split at e
      · rename_i ds' E1 e2
        split at e
        · rename_i m1 d1 e3
          cases e
          refine ⟨C, E, Fs, R, d0, E, by unfold eVar; rw [ei], fun v H1 Fs1 F R1 s1 r1 k1 => ⟨C, E, Fs1, R1, ds', _, e2, fun vs H2 Fs2 FF R2 s2 a2 => ?_⟩⟩
          obtain ⟨_, _, es, _⟩ := k1
          obtain ⟨v', ev, rd2, _⟩ := R2.rd i m1 d1 e3
          rw [es] at ev
          cases ev
          refine q (v :: vs) H2 Fs2 (Fs2 i :: FF) R2 ((s1.trans s2).mono fun i hi => by simpa using hi) ⟨d1, ds', v, vs, Fs2 i, FF, rfl, rfl, rfl, rd2, ⟨m1, e3, es, rfl⟩, fun j B hB hk a ha hb => ?_, a2.base s1.chg⟩
          obtain ⟨kj, dj, vj, ej, _, _, _, hj⟩ := a2.get hB
          rcases hk with hk | hk
          · cases hk
          · rw [hk] at ej
            cases ej
            rcases hj.2 a hb with ⟨_, z, _⟩ | z
            · cases z
            · exact z.2 i ⟨m1, d1, e3⟩ ha
        · cases e
      · cases e
    · cases e
/-! ### what is all its own -/
def eOwn (k : Kind) (f : EF) : EF := fun E => match f E with
  | some (d, E') => if storable k d then some (d, E') else none
  | none => none
theorem flat_1x {H : Hp} {d : D} {v : V} {F : List Addr} (h : d.flat = true) (r : Rds G H d v F) : d.node = true ∧ ∃ a, F = [a] := by
  cases d with
  | lst ds =>
    obtain ⟨a, us, A, rfl, h3, h4, rfl⟩ := rds_lst.mp r
    have e := RdsL.atom ds us A (by unfold D.flat at h; exact h) h4
    subst e
    exact ⟨rfl, a, rfl⟩
  | dct ks ds =>
    obtain ⟨a, us, A, rfl, h3, _, h4, rfl⟩ := rds_dct.mp r
    have e := RdsL.atom ds _ A (by unfold D.flat at h; exact h) h4
    subst e
    exact ⟨rfl, a, rfl⟩
  | non => cases h
  | bl _ => cases h
  | int _ => cases h
  | str _ => cases h
  | tup _ => cases h
  | obj _ _ _ => cases h
  | scr _ => cases h
theorem ve_own {e : Expr} {M : List Nat} {k : Kind} {f : EF} (h : VE G X e M k f) : VE G X e M .own (eOwn k f) := PE.imp h fun σ H Q ⟨C, E, Fs, R, d, E', e, q⟩ => by
  unfold eOwn at e
  split at e
  · rename_i d1 E1 e1
    split at e
    · rename_i hs
      cases e
      refine ⟨C, E, Fs, R, d, E', e1, fun v H' Fs' F R' s' r' k' => q v H' Fs' F R' s' r' ?_⟩
      unfold storable at hs
      rw [Bool.or_eq_true] at hs
      rcases hs with hs | hs
      · have eF := Rds.atom d v F hs r'
        subst eF
        exact ⟨List.nodup_nil, fun a ha => by cases ha⟩
      · cases k with
        | own => exact k'
        | top S =>
          have hf : d.flat = true := hs
          obtain ⟨hn, a, eF⟩ := flat_1x (d := d) hf r'
          subst eF
          refine ⟨by simp, fun b hb => .inr ?_⟩
          rw [List.mem_singleton.mp hb]
          exact k'.2 a [] hn rfl
        | sub i => cases hs
        | vw S => cases hs
        | ref i => cases hs
    · cases e
  · cases e
/-! ### a, b = x, y, both their own -/
def sPar2 (i j : Nat) (l : LF) : SF := fun E => match l E with
  | some ([d, d'], E') => if i < E'.length ∧ j < E'.length then some (.nx ((E'.set i (some (.own, d))).set j (some (.own, d')))) else none
  | _ => none
theorem vs_par {ro : Bool} {i j : Nat} {xa ya : Str} {a b : Expr} {M : List Nat} {l : LF} {px py pt pos : Pos} {kt k2 pt2} (x : XOk G X) (hN : X.N.Nodup) (hi : X.N[i]? = some xa) (hj : X.N[j]? = some ya) (hij : i ≠ j)
    (hx : X.env.scope.names.lookup xa = some .local) (hy : X.env.scope.names.lookup ya = some .local) (ha : VL G X [a, b] M [.own, .own] l)
    (hw : swappedStores [.Tuple [.Name xa px, .Name ya py] kt pt] (.Tuple [a, b] k2 pt2) X.env = pure (some [xa, ya]))
    (hs : swapsWithSole [.Tuple [.Name xa px, .Name ya py] kt pt] (.Tuple [a, b] k2 pt2) pos.line X.env = pure false := by rfl) :
    VS G X ro (.Assign [.Tuple [.Name xa px, .Name ya py] kt pt] (.Tuple [a, b] k2 pt2) pos) (sPar2 i j l) :=
  PS.imp (ps_par x.calm hN hi hj hij hx hy ha hw hs) fun N σ H ⟨C, E, Fs, R, o, e, q⟩ => by
    unfold sPar2 at e
    split at e
    · rename_i d d' E' e1
      split at e
      · rename_i hl
        cases e
        refine ⟨C, E, Fs, R, [d, d'], E', e1, fun vs H' Fs' FF R' s' a' => ?_⟩
        obtain ⟨d1, ds1, v, vs1, F, FF1, h1, rfl, rfl, rd1, k1, sep, a2⟩ := a'
        cases h1
        obtain ⟨d2, ds2, w, vs2, F2, FF2, h2, rfl, rfl, rd2, k2, _, a3⟩ := a2
        cases h2
        obtain ⟨_, rfl, rfl⟩ := a3
        refine ⟨v, w, rfl, ?_⟩
        have own : ∀ {d : D} {v : V} {F : List Addr}, KOk σ H E' Fs' .own d v F → ∀ a ∈ F, Loose H E' Fs' a := fun k a ha => (k.2 a ha).elim (fun ⟨_, z, _⟩ => by cases z) id
        have R1 := R'.setOwn (H1 := H) hl.1 R.hn rd1 k1.1 (own k1)
        have R2 := R1.setOwn (H1 := H) (i := j) (by rw [List.length_set]; exact hl.2) R.hn rd2 k2.1 (fun a ha => ⟨(own k2 a ha).1, fun s hs' hm => by
          by_cases z : s = i
          · subst z
            rw [FsSet, if_pos rfl] at hm
            exact sep 0 F2 rfl (.inl rfl) a hm ha
          · rw [FsSet, if_neg z] at hm
            obtain ⟨m, dd, es⟩ := hs'
            rw [List.getElem?_set_ne (Ne.symm z)] at es
            exact (own k2 a ha).2 s ⟨m, dd, es⟩ hm⟩)
        exact q _ _ _ R2
      · cases e
    · cases e
/-! ### isinstance(x, T), T a built-in type -/
def D.tyn : D → Option String
  | .non => some "NoneType"
  | .bl _ => some "bool"
  | .int _ => some "int"
  | .str _ => some "str"
  | .tup _ => some "tuple"
  | .lst _ => some "list"
  | .dct _ _ => some "dict"
  | .scr _ => some "list"
  | .obj _ _ _ => none
def isiB (a T : String) : Bool := decide (a = T) || (decide (a = "bool") && decide (T = "int"))
def isiTs : List String := ["int", "bool", "list", "tuple", "dict", "str"]
def pIsi (T : String) : List D → Option D
  | [d] => d.tyn.map fun a => .bl (isiB a T)
  | _ => none
theorem isi_kit : ∀ a ∈ ["NoneType", "bool", "int", "str", "tuple", "list", "dict"], ∀ T ∈ isiTs, kitB a T = some (isiB a T) := by decide +kernel
theorem tyn_mem {d : D} {a : String} (e : d.tyn = some a) : a ∈ ["NoneType", "bool", "int", "str", "tuple", "list", "dict"] := by
  cases d <;> simp [D.tyn] at e <;> subst e <;> decide
theorem rds_ty {H : Hp} {d : D} {v : V} {F : List Addr} {a : String} (e : d.tyn = some a) (r : Rds G H d v F) : TyX G.K H v (.type a) := by
  cases d <;> simp only [D.tyn, Option.some.injEq, reduceCtorEq] at e <;> subst e
  · obtain ⟨rfl, _⟩ := rds_non.mp r
    exact .base .non
  · obtain ⟨rfl, _⟩ := rds_bl.mp r
    exact .base (.bl _)
  · obtain ⟨rfl, _⟩ := rds_int.mp r
    exact .base (.int _)
  · obtain ⟨rfl, _⟩ := rds_str.mp r
    exact .base (.str _)
  · obtain ⟨a, us, rfl, h3, h4⟩ := rds_tup.mp r
    rcases h3 with (h | ⟨o, h⟩) | ⟨o, its, n, h, hc, _⟩
    · exact .base (.tup h)
    · exact .fTuple h
    · exact .kTuple h hc
  · obtain ⟨a, us, A, rfl, h3, h4, rfl⟩ := rds_lst.mp r
    exact .base (.lst h3)
  · obtain ⟨a, us, A, rfl, h3, _, h4, rfl⟩ := rds_dct.mp r
    exact .base (.dK h3)
  · obtain ⟨a, rfl, h3, rfl⟩ := rds_scr.mp r
    rcases h3 with ⟨o, h⟩ | ⟨o, its, n, h, hc, _⟩
    · exact .base (.frz h)
    · exact .kList h hc
theorem prim_isi (hK : X.K = G.K) {T : String} (hT : T ∈ isiTs) : PrimF G (fun vs H Q => ∃ x, vs = [x] ∧ rIsi X.K [x, .ty T] H Q) (pIsi T) := fun H vs ds F Q d tb r e q => by
  rw [hK]
  unfold pIsi at e
  split at e
  · rename_i d1
    cases ey : d1.tyn with
    | none => rw [ey] at e; cases e
    | some a =>
      rw [ey] at e
      cases e
      obtain ⟨x, rfl, h1⟩ := rdsL1 r
      exact ⟨x, rfl, x, .ty T, .type a, .type T, isiB a T, rfl, .ty T, rds_ty ey h1, kit_ty (isi_kit a (tyn_mem ey) T hT), q_atom (hBl _) q⟩
  · cases e
theorem ve_isi {a : Expr} {M : List Nat} {k : Kind} {f : EF} {T : String} {n : Str} {q q2 pos : Pos} (x : XOk G X) (hg : Gl X "isinstance") (hm : X.mg "isinstance" = none) (hg2 : Gl X n) (hm2 : X.mg n = none) (hT : T ∈ isiTs) (hv2 : bootBuiltins n = some (.type T)) (ha : VE G X a M k f)
    (hn : n ≠ "__name__" := by decide) (hd : (n == ("__debug__" : Str)) = false := by decide)
    (he : starEach [a, .Name n q2] X.env = (false, eval a X.env) :: starEach [.Name n q2] X.env := by rfl) (hpl : (backTo pos (starEach [.Name n q2] X.env)).any (·.1) = false := by rfl) (hs2 : starEach [.Name n q2] X.env = (false, eval (.Name n q2) X.env) :: starEach [] X.env := by rfl) :
    VE G X (.Call (.Name "isinstance" q) [a, .Name n q2] [] pos) M .own (ePrim (pIsi T) (lCons f lNil)) :=
  PE.imp (pe_callB call_isi hg hm (by decide +kernel) (pa_cons ha (pa_cons (pe_bltn (v := .ty T) hg2 hm2 hv2 rfl hn hd) pa_nil hs2) he) (by decide) (by decide) he hpl) fun σ H Q h => (one_of (prim_own (prim_isi x.K hT) h)).mono fun x H1 ⟨y, e, q⟩ => by
    cases e
    exact q
/-! ### xs.count(y), flat -/
def eCnt (f g : EF) : EF := fun E => match f E with
  | some (.lst ds, E1) => (match g E1 with
    | some (d, E2) => (match flatD d, flatsD ds with
      | some v, some vs => some (.int ((vs.countP fun z => eqV z v : Nat) : Int), E2)
      | _, _ => none)
    | none => none)
  | _ => none
theorem ve_cnt {o e : Expr} {M M' : List Nat} {k k' : Kind} {f g : EF} {apos cpos : Pos} (x : XOk G X) (ho : VE G X o M k f) (he : VE G X e M' k' g) (sf : k.safe (M' ++ []) = true := by rfl)
    (hbase : attributeBase o "count" X.env (eval o X.env) = eval o X.env := by rfl)
    (hfew : ((backTo cpos (starEach [e] X.env)).all (fun x => !x.1) && (backToKw cpos (keywordEach [] X.env)).all (fun x => x.1.isSome)
      && decide (([e] : List Expr).length + ([] : List Keyword).length + (if ([] : List Keyword).isEmpty then 0 else 1) < 30)) = true := by rfl)
    (hline : (apos.endLine == cpos.line) = true := by rfl) (hs : starEach [e] X.env = (false, eval e X.env) :: starEach [] X.env := by rfl) (hplain : (backTo cpos (starEach [] X.env)).any (·.1) = false := by rfl) :
    VE G X (.Call (.Attribute o "count" apos) [e] [] cpos) (M ++ (M' ++ [])) .own (eCnt f g) :=
  PE.imp (pe_bm PySem.F.plainAttrs_list PySem.F.slot_list_count PySem.F.type_list_count TA.mt_countV ho (vl_cons he vl_nil (safe_nil k') hs) hbase hfew hline hs hplain) fun σ H Q ⟨C, E, Fs, R, d, E', e, q⟩ => by
    unfold eCnt at e
    split at e
    · rename_i ds E1 e1
      split at e
      · rename_i d2 E2 e2
        split at e
        · rename_i v0 vs0 e3 e4
          cases e
          refine ⟨C, E, Fs, R, .lst ds, E1, e1, fun v H1 Fs1 F R1 s1 r1 k1 => ?_⟩
          obtain ⟨a, us, A, rfl, h3, h4, rfl⟩ := rds_lst.mp r1
          refine ⟨.inl ⟨rfl, us, SqL.of h3⟩, C, E1, Fs1, R1, [d2], _, by unfold lCons lNil; rw [e2], fun vs H2 Fs2 FF R2 s2 a2 => ?_⟩
          obtain ⟨y, rfl, h1⟩ := rdsL1 a2.rds
          obtain ⟨r2, k2⟩ := k1.step R1 r1 s2 sf
          obtain ⟨a', us', A', ea, h5, h6, _⟩ := rds_lst.mp r2
          cases ea
          obtain ⟨rfl, f1, _⟩ := flatD_of e3 h1
          obtain ⟨rfl, f2, _⟩ := flatsD_of e4 h6
          exact ⟨a, _, _, rfl, rfl, SqL.of h5, f1, f2, q _ H2 Fs2 [] R2 (s1.trans s2) (hInt _ _ _) ⟨List.nodup_nil, fun a ha => by cases ha⟩⟩
        · cases e
      · cases e
    · cases e
end
end
end VL
set_option maxHeartbeats 4000000
/-! The combinators, applied. -/
namespace VL
open PySem PySem.Spec PyProof.Rows L2
theorem lNil_ap (E : Env) : lNil  E = (some ([], E)) := rfl
theorem lCons_ap (f : EF) (g : LF) (E : Env) : lCons f g E = (match f E with
  | some (d, E1) => (match g E1 with
    | some (ds, E2) => some (d :: ds, E2)
    | none => none)
  | none => none) := rfl
theorem ePrim_ap (p : List D → Option D) (l : LF) (E : Env) : ePrim p l E = (match l E with
  | some (ds, E') => (match p ds with
    | some d => some (d, E')
    | none => none)
  | none => none) := rfl
theorem eVar_ap (i : Nat) (E : Env) : eVar i E = (match E[i]? with
  | some (some (_, d)) => some (d, E)
  | _ => none) := rfl
theorem eC_ap (d : D) (E : Env) : eC d E = (some (d, E)) := rfl
theorem pTup_ap (ds : List D) : pTup  ds = (if sl (decide (ds.length ≤ sizeLine)) then some (.tup ds) else none) := rfl
theorem pLst_ap (ds : List D) : pLst  ds = (if sl (decide (ds.length ≤ sizeLine)) then some (.lst ds) else none) := rfl
theorem toT_ap (f : EF) (E : Env) : toT f E = (match f E with
  | some (.bl b, E') => some (b, E')
  | _ => none) := rfl
theorem tfAnd_ap (f g : TF) (E : Env) : tfAnd f g E = (match f E with
  | some (true, E') => g E'
  | some (false, E') => some (false, E')
  | none => none) := rfl
theorem tfOr_ap (f g : TF) (E : Env) : tfOr f g E = (match f E with
  | some (false, E') => g E'
  | some (true, E') => some (true, E')
  | none => none) := rfl
theorem tfNot_ap (f : TF) (E : Env) : tfNot f E = (match f E with
  | some (b, E') => some (!b, E')
  | none => none) := rfl
theorem eIf_ap (t : TF) (f g : EF) (E : Env) : eIf t f g E = (match t E with
  | some (true, E') => f E'
  | some (false, E') => g E'
  | none => none) := rfl
theorem oNone_ap (E : Env) : oNone  E = (some (none, E)) := rfl
theorem oSome_ap (f : EF) (E : Env) : oSome f E = (match f E with
  | some (.int i, E') => some (some i, E')
  | _ => none) := rfl
theorem eSlice_ap (f : EF) (lo hi : OF) (E : Env) : eSlice f lo hi E = (match f E with
  | some (d, E1) => (match lo E1 with
    | some (l, E2) => (match hi E2 with
      | some (u, E3) => (match pSlice l u [d] with
        | some r => some (r, E3)
        | none => none)
      | none => none)
    | none => none)
  | none => none) := rfl
theorem toTr_ap (f : EF) (E : Env) : toTr f E = (match f E with
  | some (d, E') => (match d.tru with
    | some b => some (b, E')
    | none => none)
  | none => none) := rfl
theorem rg1_ap (f : EF) (E : Env) : rg1 f E = (match f E with
  | some (.int n, E') => some (0, n, E')
  | _ => none) := rfl
theorem rg2_ap (f g : EF) (E : Env) : rg2 f g E = (match lCons f (lCons g lNil) E with
  | some ([.int i, .int j], E') => some (i, j, E')
  | _ => none) := rfl
theorem eListRg_ap (r : RF) (E : Env) : eListRg r E = (match r E with
  | some (a, b, E') => if rgOk a b then some (.lst ((rgI a b).map .int), E') else none
  | none => none) := rfl
theorem sNext_ap (E : Env) : sNext  E = (some (.nx E)) := rfl
theorem sBreak_ap (E : Env) : sBreak  E = (some (.bk E)) := rfl
theorem sCont_ap (E : Env) : sCont  E = (some (.ct E)) := rfl
theorem sSeq_ap (S T : SF) (E : Env) : sSeq S T E = (match S E with
  | some (.nx E') => T E'
  | r => r) := rfl
theorem sDrop_ap (f : EF) (E : Env) : sDrop f E = (match f E with
  | some (_, E') => some (.nx E')
  | none => none) := rfl
theorem sRet_ap (ro : Bool) (k : Kind) (f : EF) (E : Env) : sRet ro k f E = (match f E with
  | some (d, E') => if retOk ro k E' d then some (.rt d E') else none
  | none => none) := rfl
theorem sRetN_ap (E : Env) : sRetN  E = (some (.rt .non E)) := rfl
theorem sIf_ap (t : TF) (S T : SF) (E : Env) : sIf t S T E = (match t E with
  | some (true, E') => S E'
  | some (false, E') => T E'
  | none => none) := rfl
theorem sSet_ap (i : Nat) (k : Kind) (f : EF) (E : Env) : sSet i k f E = (match f E with
  | some (d, E') => if i < E'.length then some (.nx (putE E' i k d)) else none
  | none => none) := rfl
theorem gSet_ap (bk : BK) (i : Nat) (d : D) (E : Env) : gSet bk i d E = (if i < E.length then some (bindN bk i d E) else none) := rfl
theorem sAsg_ap (f : EF) (g : D → Env → Option Env) (E : Env) : sAsg f g E = (match f E with
  | some (d, E') => (match g d E' with
    | some E2 => some (.nx E2)
    | none => none)
  | none => none) := rfl
theorem sPar_ap (i j : Nat) (k k' : Kind) (l : LF) (E : Env) : sPar i j k k' l E = (match l E with
  | some ([d, d'], E') => if i < E'.length ∧ j < E'.length then some (.nx (putE (putE E' i k d) j k' d')) else none
  | _ => none) := rfl
theorem sFor_ap (k : Kind) (f : IF) (g : Bool → D → Env → Option Env) (b : SF) (E : Env) : sFor k f g b E = (match f E with
  | some (ds, E') => forL (g (newAll E' k.S)) b ds (freeze E' k.S)
  | none => none) := rfl
theorem iSeq_ap (f : EF) (E : Env) : iSeq f E = (match f E with
  | some (d, E') => (match d.items with
    | some ds => some (ds, E')
    | none => none)
  | none => none) := rfl
theorem iRg_ap (r : RF) (E : Env) : iRg r E = (match r E with
  | some (a, b, E') => if rgOk a b then some ((rgI a b).map .int, E') else none
  | none => none) := rfl
theorem iEnm_ap (f : EF) (E : Env) : iEnm f E = (match f E with
  | some (d, E') => (match d.items with
    | some ds => some (enumD 0 ds, E')
    | none => none)
  | none => none) := rfl
theorem callD_ap (S : SF) (N : Nat) (J : List Nat) (ds : List D) : callD S N J ds = (match S (startE N J ds) with
  | some (.rt d E) => (match ioOut E J with
    | some ds' => some (d, ds')
    | none => none)
  | some (.nx E) => (match ioOut E J with
    | some ds' => some (.non, ds')
    | none => none)
  | _ => none) := rfl
theorem eCall_ap (F : FD) (IO : List Nat) (l : LF) (E : Env) : eCall F IO l E = (match l E with
  | some (ds, E') => if ioW E' IO then (match F ds with
    | some (d, ds') => if ds'.length = IO.length then some (d, setIO E' IO ds') else none
    | none => none) else none
  | none => none) := rfl
theorem eLc_ap (k : Kind) (src : IF) (g : Bool → D → Env → Option Env) (t : TF) (f : EF) (vs M : List Nat) (E : Env) : eLc k src g t f vs M E = (match src E with
  | some (ds, E1) => (match lcL (g (newAll E1 k.S)) t f vs ds (wipeE (freeze E1 k.S) vs) with
    | some (ys, E2) => if sl (decide (ds.length ≤ sizeLine)) then some (.lst ys, setM E1 E2 M) else none
    | none => none)
  | none => none) := rfl
theorem tYesF_ap (E : Env) : tYesF  E = (some (true, E)) := rfl
theorem pName_ap (i : Nat) (E : Env) : pName i E = (match E[i]? with
  | some (some _) => some ([], E)
  | _ => none) := rfl
theorem pSub1_ap (i : Nat) (pf : PF) (f : EF) (E : Env) : pSub1 i pf f E = (match pf E with
  | some (p, E1) => if hasP E1 i p then (match f E1 with
    | some (.int j, E2) => if hasP E2 i (p ++ [j]) then some (p ++ [j], E2) else none
    | _ => none) else none
  | none => none) := rfl
theorem eMut_ap (T : String) (i : Nat) (pf : PF) (ks : List Kind) (l : LF) (op : OPD) (E : Env) : eMut T i pf ks l op E = (match pf E with
  | some (p, E1) => if hasT T E1 i p then (match l E1 with
    | some (ds, E2) => if storL ks ds then (match E2[i]? with
      | some (some (m, d)) => if m.w then (match getP p d with
        | some sd => (match op sd ds with
          | some (sd', res) => if res.atom then (match setP p d sd' with
            | some d' => some (res, E2.set i (some (m, d')))
            | none => none) else none
          | none => none)
        | none => none) else none
      | _ => none) else none
    | none => none) else none
  | none => none) := rfl
theorem sSetIt_ap (i : Nat) (k : Kind) (f : EF) (pf : PF) (g : EF) (E : Env) : sSetIt i k f pf g E = (match f E with
  | some (d, E1) => (match pf E1 with
    | some (p, E2) => if hasP E2 i p then (match g E2 with
      | some (ix, E3) => if storable k d && ix.atom then (match E3[i]? with
        | some (some (m, dd)) => if m.w then (match getP p dd with
          | some sd => (match opSet sd [ix, d] with
            | some (sd', _) => (match setP p dd sd' with
              | some d' => some (.nx (E3.set i (some (m, d'))))
              | none => none)
            | none => none)
          | none => none) else none
        | _ => none) else none
      | none => none) else none
    | none => none)
  | none => none) := rfl
theorem eDict0_ap (E : Env) : eDict0  E = (some (.dct [] [], E)) := rfl
theorem eDict1_ap (f g : EF) (E : Env) : eDict1 f g E = (match f E with
  | some (kd, E1) => (match keyD kd with
    | some k => (match g E1 with
      | some (d, E2) => some (.dct [k] [d], E2)
      | none => none)
    | none => none)
  | none => none) := rfl
theorem eAnd_ap (f g : EF) (E : Env) : eAnd f g E = (match f E with
  | some (d, E') => (match d.tru with
    | some true => g E'
    | some false => some (d, E')
    | none => none)
  | none => none) := rfl
theorem eOr_ap (f g : EF) (E : Env) : eOr f g E = (match f E with
  | some (d, E') => (match d.tru with
    | some true => some (d, E')
    | some false => g E'
    | none => none)
  | none => none) := rfl
theorem eNot_ap (f : EF) (E : Env) : eNot f E = (match f E with
  | some (d, E') => (match d.tru with
    | some b => some (.bl (!b), E')
    | none => none)
  | none => none) := rfl
theorem gSetIt_ap (i : Nat) (k : Kind) (pf : PF) (g : EF) (d : D) (E1 : Env) : gSetIt i k pf g d E1 = (match pf E1 with
  | some (p, E2) => if hasP E2 i p then (match g E2 with
    | some (ix, E3) => if storable k d && ix.atom then (match E3[i]? with
      | some (some (m, dd)) => if m.w then (match getP p dd with
        | some sd => (match opSet sd [ix, d] with
          | some (sd', _) => (match setP p dd sd' with
            | some d' => some (E3.set i (some (m, d')))
            | none => none)
          | none => none)
        | none => none) else none
      | _ => none) else none
    | none => none) else none
  | none => none) := rfl
theorem sPairSet_ap (i : Nat) (pf : PF) (g : EF) (j : Nat) (f : EF) (E : Env) : sPairSet i pf g j f E = (match f E with
  | some (.tup [.int a, .int b], E1) => (match gSetIt i .own pf g (.int a) E1 with
    | some E2 => if j < E2.length then some (.nx (E2.set j (some (.own, .int b)))) else none
    | none => none)
  | _ => none) := rfl
theorem lRef_ap (i : Nat) (g : LF) (E : Env) : lRef i g E = (match E[i]? with
  | some (some _) => (match g E with
    | some (ds, E') => (match E'[i]? with
      | some (some (_, d)) => some (d :: ds, E')
      | _ => none)
    | none => none)
  | _ => none) := rfl
theorem eOwn_ap (k : Kind) (f : EF) (E : Env) : eOwn k f E = (match f E with
  | some (d, E') => if storable k d then some (d, E') else none
  | none => none) := rfl
theorem sPar2_ap (i j : Nat) (l : LF) (E : Env) : sPar2 i j l E = (match l E with
  | some ([d, d'], E') => if i < E'.length ∧ j < E'.length then some (.nx ((E'.set i (some (.own, d))).set j (some (.own, d')))) else none
  | _ => none) := rfl
theorem eCnt_ap (f g : EF) (E : Env) : eCnt f g E = (match f E with
  | some (.lst ds, E1) => (match g E1 with
    | some (d, E2) => (match flatD d, flatsD ds with
      | some v, some vs => some (.int ((vs.countP fun z => eqV z v : Nat) : Int), E2)
      | _, _ => none)
    | none => none)
  | _ => none) := rfl
end VL
set_option maxHeartbeats 4000000
/-! What the denotations come to: loops, comprehensions. -/
namespace VL
open PySem PySem.Spec PyProof.Rows L2
section
variable {g : D → Env → Option Env} {b : SF} {t : TF} {f : EF} {vs : List Nat}
theorem forL_inv_aux (I : Nat → Env → Prop) : ∀ (ds : List D) (k : Nat) (E : Env), (∀ i d E, ds[i]? = some d → I (k + i) E → ∃ E1 E2, g d E = some E1 ∧ b E1 = some (.nx E2) ∧ I (k + i + 1) E2) → I k E → ∃ E', forL g b ds E = some (.nx E') ∧ I (k + ds.length) E'
  | [], k, E, _, h => ⟨E, rfl, h⟩
  | d :: ds, k, E, st, h => by
    obtain ⟨E1, E2, h1, h2, h3⟩ := st 0 d E rfl h
    obtain ⟨E', h4, h5⟩ := forL_inv_aux I ds (k + 1) E2 (fun i d' E' hd hi => by
      have := st (i + 1) d' E' (by simpa using hd) (by rw [← Nat.add_assoc, Nat.add_right_comm]; exact hi)
      rw [show k + 1 + i + 1 = k + (i + 1) + 1 by omega]
      exact this) h3
    refine ⟨E', ?_, by rw [List.length_cons, show k + (ds.length + 1) = k + 1 + ds.length by omega]; exact h5⟩
    simp only [forL, h1, h2]
    exact h4
theorem forL_inv (I : Nat → Env → Prop) {ds : List D} {E : Env} (h : I 0 E) (st : ∀ i d E, ds[i]? = some d → I i E → ∃ E1 E2, g d E = some E1 ∧ b E1 = some (.nx E2) ∧ I (i + 1) E2) : ∃ E', forL g b ds E = some (.nx E') ∧ I ds.length E' := by
  obtain ⟨E', h1, h2⟩ := forL_inv_aux (g := g) (b := b) I ds 0 E (fun i d E hd hi => by rw [Nat.zero_add] at hi ⊢; exact st i d E hd hi) h
  rw [Nat.zero_add] at h2
  exact ⟨E', h1, h2⟩
theorem lcL_inv_aux (I : Nat → List D → Env → Prop) : ∀ (ds : List D) (k : Nat) (acc : List D) (E : Env),
    (∀ i d acc E, ds[i]? = some d → I (k + i) acc E → ∃ E1 b E2, g d E = some E1 ∧ t E1 = some (b, E2) ∧ (b = false → I (k + i + 1) acc (wipeE E2 vs)) ∧ (b = true → ∃ y E3, f E2 = some (y, E3) ∧ I (k + i + 1) (acc ++ [y]) (wipeE E3 vs))) →
    I k acc E → ∃ ys E', lcL g t f vs ds E = some (ys, E') ∧ I (k + ds.length) (acc ++ ys) E'
  | [], k, acc, E, _, h => ⟨[], E, rfl, by simpa using h⟩
  | d :: ds, k, acc, E, st, h => by
    obtain ⟨E1, bb, E2, h1, h2, h3, h4⟩ := st 0 d acc E rfl h
    have st' : ∀ i d acc E, ds[i]? = some d → I (k + 1 + i) acc E → ∃ E1 b E2, g d E = some E1 ∧ t E1 = some (b, E2) ∧ (b = false → I (k + 1 + i + 1) acc (wipeE E2 vs)) ∧ (b = true → ∃ y E3, f E2 = some (y, E3) ∧ I (k + 1 + i + 1) (acc ++ [y]) (wipeE E3 vs)) := fun i d' acc' E' hd hi => by
      have := st (i + 1) d' acc' E' (by simpa using hd) (by rw [← Nat.add_assoc, Nat.add_right_comm]; exact hi)
      rw [show k + 1 + i + 1 = k + (i + 1) + 1 by omega]
      exact this
    cases bb with
    | false =>
      obtain ⟨ys, E', h5, h6⟩ := lcL_inv_aux I ds (k + 1) acc _ st' (h3 rfl)
      refine ⟨ys, E', ?_, by rw [List.length_cons, show k + (ds.length + 1) = k + 1 + ds.length by omega]; exact h6⟩
      simp only [lcL, h1, h2]
      exact h5
    | true =>
      obtain ⟨y, E3, h7, h8⟩ := h4 rfl
      obtain ⟨ys, E', h5, h6⟩ := lcL_inv_aux I ds (k + 1) (acc ++ [y]) _ st' h8
      refine ⟨y :: ys, E', ?_, by rw [List.length_cons, show k + (ds.length + 1) = k + 1 + ds.length by omega]; simpa using h6⟩
      simp only [lcL, h1, h2, h7, h5]
theorem lcL_inv (I : Nat → List D → Env → Prop) {ds : List D} {E : Env} (h : I 0 [] E)
    (st : ∀ i d acc E, ds[i]? = some d → I i acc E → ∃ E1 b E2, g d E = some E1 ∧ t E1 = some (b, E2) ∧ (b = false → I (i + 1) acc (wipeE E2 vs)) ∧ (b = true → ∃ y E3, f E2 = some (y, E3) ∧ I (i + 1) (acc ++ [y]) (wipeE E3 vs))) :
    ∃ ys E', lcL g t f vs ds E = some (ys, E') ∧ I ds.length ys E' := by
  obtain ⟨ys, E', h1, h2⟩ := lcL_inv_aux (g := g) (t := t) (f := f) (vs := vs) I ds 0 [] E (fun i d acc E hd hi => by rw [Nat.zero_add] at hi ⊢; exact st i d acc E hd hi) h
  rw [Nat.zero_add, List.nil_append] at h2
  exact ⟨ys, E', h1, h2⟩
/-- a comprehension -/
theorem eLc_eq {k : Kind} {src : IF} {g : Bool → D → Env → Option Env} {M : List Nat} {E E1 E2 E3 : Env} {ds ys : List D} (h1 : src E = some (ds, E1)) (h2 : lcL (g (newAll E1 k.S)) t f vs ds (wipeE (freeze E1 k.S) vs) = some (ys, E2)) (h3 : ds.length ≤ sizeLine) (h4 : setM E1 E2 M = E3) :
    eLc k src g t f vs M E = some (.lst ys, E3) := by
  unfold eLc
  rw [h1]
  simp only [h2]
  rw [if_pos (sl_iff.mpr h3), h4]
theorem whileN_inv {bd : SF} (I : Env → Prop) (R : Env → Prop) (mu : Env → Nat) (step : ∀ E, I E → (∃ E1, t E = some (false, E1) ∧ R E1) ∨ ∃ E1 E2, t E = some (true, E1) ∧ bd E1 = some (.nx E2) ∧ I E2 ∧ mu E2 < mu E) :
    ∀ (n : Nat) (E : Env), mu E < n → I E → ∃ E', whileN t bd n E = some (.nx E') ∧ R E'
  | 0, E, h, _ => absurd h (Nat.not_lt_zero _)
  | n + 1, E, h, hi => by
    rcases step E hi with ⟨E1, h1, h2⟩ | ⟨E1, E2, h1, h2, h3, h4⟩
    · exact ⟨E1, by simp only [whileN, h1], h2⟩
    · obtain ⟨E', h5, h6⟩ := whileN_inv I R mu step n E2 (by omega) h3
      exact ⟨E', by simp only [whileN, h1, h2, h5], h6⟩
theorem sWhile_inv {bd : SF} (I : Env → Prop) (R : Env → Prop) (mu : Env → Nat) (step : ∀ E, I E → (∃ E1, t E = some (false, E1) ∧ R E1) ∨ ∃ E1 E2, t E = some (true, E1) ∧ bd E1 = some (.nx E2) ∧ I E2 ∧ mu E2 < mu E) {E : Env} (h : I E) : ∃ E', sWhile t bd E = some (.nx E') ∧ R E' := by
  obtain ⟨E', h1, h2⟩ := whileN_inv I R mu step (mu E + 1) E (Nat.lt_succ_self _) h
  exact ⟨E', sWhile_eq h1, h2⟩
end
section
variable {g : D → Env → Option Env} {b : SF} {t : TF} {f : EF} {vs : List Nat}
theorem lcL_map (h : D → D) {E : Env} : ∀ {ds : List D}, (∀ d ∈ ds, ∃ E1 E3, g d E = some E1 ∧ t E1 = some (true, E1) ∧ f E1 = some (h d, E3) ∧ wipeE E3 vs = E) → lcL g t f vs ds E = some (ds.map h, E)
  | [], _ => rfl
  | d :: ds, st => by
    obtain ⟨E1, E3, h1, h2, h3, h4⟩ := st d List.mem_cons_self
    have ih := lcL_map h (ds := ds) fun d hd => st d (List.mem_cons_of_mem _ hd)
    simp only [lcL, h1, h2, h3, h4, ih, List.map_cons]
theorem forL_gen_aux (I : Nat → Env → Prop) (Rt : D → Env → Prop) : ∀ (ds : List D) (k : Nat) (E : Env), (∀ i d E, ds[i]? = some d → I (k + i) E → ∃ E1, g d E = some E1 ∧ ((∃ E2, b E1 = some (.nx E2) ∧ I (k + i + 1) E2) ∨ ∃ r E2, b E1 = some (.rt r E2) ∧ Rt r E2)) → I k E →
    (∃ E', forL g b ds E = some (.nx E') ∧ I (k + ds.length) E') ∨ ∃ r E', forL g b ds E = some (.rt r E') ∧ Rt r E'
  | [], k, E, _, h => .inl ⟨E, rfl, h⟩
  | d :: ds, k, E, st, h => by
    obtain ⟨E1, h1, ⟨E2, h2, h3⟩ | ⟨r, E2, h2, h3⟩⟩ := st 0 d E rfl h
    · rcases forL_gen_aux I Rt ds (k + 1) E2 (fun i d' E' hd hi => by
        have := st (i + 1) d' E' (by simpa using hd) (by rw [← Nat.add_assoc, Nat.add_right_comm]; exact hi)
        rw [show k + 1 + i + 1 = k + (i + 1) + 1 by omega]
        exact this) h3 with ⟨E', h4, h5⟩ | ⟨r, E', h4, h5⟩
      · refine .inl ⟨E', ?_, by rw [List.length_cons, show k + (ds.length + 1) = k + 1 + ds.length by omega]; exact h5⟩
        simp only [forL, h1, h2]
        exact h4
      · refine .inr ⟨r, E', ?_, h5⟩
        simp only [forL, h1, h2]
        exact h4
    · exact .inr ⟨r, E2, by simp only [forL, h1, h2], h3⟩
theorem forL_gen (I : Nat → Env → Prop) (Rt : D → Env → Prop) {ds : List D} {E : Env} (h : I 0 E) (st : ∀ i d E, ds[i]? = some d → I i E → ∃ E1, g d E = some E1 ∧ ((∃ E2, b E1 = some (.nx E2) ∧ I (i + 1) E2) ∨ ∃ r E2, b E1 = some (.rt r E2) ∧ Rt r E2)) :
    (∃ E', forL g b ds E = some (.nx E') ∧ I ds.length E') ∨ ∃ r E', forL g b ds E = some (.rt r E') ∧ Rt r E' := by
  have := forL_gen_aux (g := g) (b := b) I Rt ds 0 E (fun i d E hd hi => by rw [Nat.zero_add] at hi ⊢; exact st i d E hd hi) h
  rw [Nat.zero_add] at this
  exact this
theorem whileN_ind {bd : SF} (I : Nat → Env → Prop) (R : Env → Prop) (step : ∀ m E, I m E → (∃ E1, t E = some (false, E1) ∧ R E1) ∨ ∃ E1 E2 m', m' < m ∧ t E = some (true, E1) ∧ bd E1 = some (.nx E2) ∧ I m' E2) :
    ∀ (n m : Nat) (E : Env), m < n → I m E → ∃ E', whileN t bd n E = some (.nx E') ∧ R E'
  | 0, m, E, h, _ => absurd h (Nat.not_lt_zero _)
  | n + 1, m, E, h, hi => by
    rcases step m E hi with ⟨E1, h1, h2⟩ | ⟨E1, E2, m', hm, h1, h2, h3⟩
    · exact ⟨E1, by simp only [whileN, h1], h2⟩
    · obtain ⟨E', h5, h6⟩ := whileN_ind I R step n m' E2 (by omega) h3
      exact ⟨E', by simp only [whileN, h1, h2, h5], h6⟩
theorem sWhile_ind {bd : SF} (I : Nat → Env → Prop) (R : Env → Prop) (step : ∀ m E, I m E → (∃ E1, t E = some (false, E1) ∧ R E1) ∨ ∃ E1 E2 m', m' < m ∧ t E = some (true, E1) ∧ bd E1 = some (.nx E2) ∧ I m' E2) {m : Nat} {E : Env} (h : I m E) : ∃ E', sWhile t bd E = some (.nx E') ∧ R E' := by
  obtain ⟨E', h1, h2⟩ := whileN_ind I R step (m + 1) m E (Nat.lt_succ_self _) h
  exact ⟨E', sWhile_eq h1, h2⟩
end
/-! ### the end -/
theorem scr_of {K : PySem.W.Frag} {H : Hp} {a : Addr} {xs : List V} (hO : Only H) (h : SqL K H a xs) : ScrAt K H a xs := by
  rcases h with (h | ⟨o, h⟩) | h
  · rcases hO a with z | ⟨o, ys, z⟩
    · rw [h] at z
      cases z
    · rw [h] at z
      cases z
  · exact .inl ⟨o, h⟩
  · exact .inr h
theorem law_end {K : PySem.W.Frag} {c : Nat → Addr} {H : Hp} {a : Addr} {ns : List Int} {F : FD} (hO : Only H) (hS : SqL K H a (ns.map V.int)) (hF : F [.scr ns] = some (.bl true, [])) : spV ⟨K, [], c⟩ [] true 1 F [.ref a] H (fun v _ => v = .bl true) fun _ _ _ => False := by
  refine ⟨[.scr ns], fun _ => [], rfl, ⟨rfl, fun j d e => ?_, fun j hj => (by cases hj)⟩, fun T hT => (by cases hT), .bl true, [], hF, fun v H' A FA' r _ _ _ _ => (rds_bl.mp r).1⟩
  cases j with
  | zero =>
    cases e
    exact ⟨.ref a, rfl, rds_scr.mpr ⟨a, rfl, scr_of hO hS, rfl⟩⟩
  | succ j => simp at e
/-! ### values -/
abbrev nm (k : Nat) : D := .int (k : Int)
theorem rgI_nat (n : Nat) : rgI 0 (n : Int) = (List.range n).map fun (i : Nat) => (i : Int) := by
  unfold rgI
  rw [Int.sub_zero, Int.toNat_natCast]
  exact List.map_congr_left fun i _ => by omega
theorem rg_nat (n : Nat) : (rgI 0 (n : Int)).map D.int = (List.range n).map nm := by
  rw [rgI_nat, List.map_map]
  rfl
theorem rgOk_iff {a b : Int} : rgOk a b = true ↔ (-(2 ^ 62) ≤ a ∧ a < 2 ^ 62 ∧ -(2 ^ 62) ≤ b ∧ b < 2 ^ 62 ∧ (b - a).toNat ≤ 2 ^ 24) := by
  unfold rgOk
  exact sl_iff
theorem rgOk_nat {n : Nat} (h : n ≤ 1000) : rgOk 0 (n : Int) = true := by
  rw [rgOk_iff]
  omega
theorem rg_get {n i : Nat} {d : D} (h : ((List.range n).map nm)[i]? = some d) : i < n ∧ d = nm i := by
  rw [List.getElem?_map] at h
  by_cases hi : i < n
  · rw [List.getElem?_range hi] at h
    cases h
    exact ⟨hi, rfl⟩
  · rw [List.getElem?_eq_none (by simpa using hi)] at h
    cases h
theorem sSeq_inv {S T : SF} {E : Env} {R : Out → Prop} (I : Env → Prop) (h1 : ∃ E1, S E = some (.nx E1) ∧ I E1) (h2 : ∀ E1, I E1 → ∃ r, T E1 = some r ∧ R r) : ∃ r, sSeq S T E = some r ∧ R r := by
  obtain ⟨E1, e1, i1⟩ := h1
  obtain ⟨r, e2, hr⟩ := h2 E1 i1
  exact ⟨r, by simp only [sSeq_ap, e1, e2], hr⟩
theorem flatsD_nm : ∀ ss : List Nat, flatsD (ss.map nm) = some (ss.map fun (k : Nat) => V.int (k : Int))
  | [] => rfl
  | n :: ns => by
    show flatsD (.int n :: ns.map nm) = _
    unfold flatsD
    rw [flatsD_nm ns]
    rfl
theorem inV_nm (a : Nat) (ss : List Nat) : inV (V.int (a : Int)) (ss.map fun (k : Nat) => V.int (k : Int)) = decide (a ∈ ss) := by
  unfold inV
  rw [List.any_map]
  rw [Bool.eq_iff_iff]
  simp only [List.any_eq_true, Function.comp, decide_eq_true_eq]
  constructor
  · rintro ⟨x, hx, h⟩
    have h' : ((x : Int) == (a : Int)) = true := h
    have h2 : (x : Int) = (a : Int) := by simpa using h'
    have : x = a := by omega
    rw [← this]
    exact hx
  · intro h
    exact ⟨a, h, show ((a : Int) == (a : Int)) = true by simp⟩
theorem cnt_nm (a : Nat) (ss : List Nat) : ((ss.map fun (k : Nat) => V.int (k : Int)).countP fun z => eqV z (V.int (a : Int))) = ss.count a := by
  rw [List.countP_map, List.count]
  congr 1
  funext x
  show ((x : Int) == (a : Int)) = (x == a)
  rw [Bool.eq_iff_iff]
  simp
  omega
theorem atomL_app : ∀ a b : List D, D.atomL (a ++ b) = (D.atomL a && D.atomL b)
  | [], b => by simp [D.atomL]
  | d :: a, b => by simp [D.atomL, atomL_app a b, Bool.and_assoc]
theorem atomL_nm : ∀ ss : List Nat, D.atomL (ss.map nm) = true
  | [] => rfl
  | n :: ns => by
    show (D.atom (nm n) && D.atomL (ns.map nm)) = true
    rw [atomL_nm ns]
    rfl
theorem atI_nat {α : Type} (xs : List α) (i : Nat) : atI xs (i : Int) = xs[i]? := by
  unfold atI ixN
  by_cases h : i < xs.length
  · simp [h]
  · simp [h]
theorem pyL_nm : ∀ ss : List Nat, D.pyL (ss.map nm) = some (ss.map fun (k : Nat) => PyData.int (k : Int))
  | [] => rfl
  | n :: ns => by
    show D.pyL (.int n :: ns.map nm) = _
    unfold D.pyL
    rw [pyL_nm ns]
    rfl
theorem pEq_int (neg : Bool) (i j : Int) : pEq neg [.int i, .int j] = some (.bl (if neg then !decide (i = j) else decide (i = j))) := rfl
theorem pEq_bl (neg a b : Bool) : pEq neg [.bl a, .bl b] = some (.bl (if neg then !decide (a = b) else decide (a = b))) := rfl
theorem pEq_str (neg : Bool) (a b : Str) : pEq neg [.str a, .str b] = some (.bl (if neg then !decide (a = b) else decide (a = b))) := rfl
theorem lay_ints : ∀ ns : List Int, PyData.canLayAll0 (ns.map .int) = true
  | [] => rfl
  | n :: ns => by
    show PyData.canLayAll0 (.int n :: ns.map .int) = true
    rw [PyData.canLayAll0, lay_ints ns]
    rfl
theorem shaped_row (ns : List Int) : SeqAt.shaped (TA.rowD ns) = true := by
  unfold SeqAt.shaped
  have e1 : (TA.rowD ns).canLay0 = true := by simpa only [PyData.canLay0] using lay_ints ns
  have e2 : (TA.rowD ns).depth = 1 := by
    simp only [PyData.depth]
    rw [PySem.W.depth_ints]
  rw [e1, e2]
  rfl
theorem cast_inj : ∀ {as bs : List Nat}, (as.map fun (k : Nat) => (k : Int)) = (bs.map fun (k : Nat) => (k : Int)) → as = bs
  | [], [], _ => rfl
  | [], _ :: _, h => by simp at h
  | _ :: _, [], h => by simp at h
  | a :: as, b :: bs, h => by
    rw [List.map_cons, List.map_cons, List.cons.injEq] at h
    rw [cast_inj h.2, show a = b by omega]
theorem shaped_nm (ks : List Nat) : SeqAt.shaped (.list (ks.map fun (k : Nat) => PyData.int (k : Int))) = true := by
  have h := shaped_row (ks.map fun (k : Nat) => (k : Int))
  unfold TA.rowD at h
  rw [List.map_map] at h
  exact h
theorem eqv_nm (as bs : List Nat) : PyData.eqv (.list (as.map fun (k : Nat) => PyData.int (k : Int))) (.list (bs.map fun (k : Nat) => PyData.int (k : Int))) = decide (as = bs) := by
  have h := TA.eqv_row (as.map fun (k : Nat) => (k : Int)) (bs.map fun (k : Nat) => (k : Int))
  unfold TA.rowD at h
  rw [List.map_map, List.map_map] at h
  refine Eq.trans h ?_
  rw [Bool.eq_iff_iff]
  simp only [decide_eq_true_eq]
  constructor
  · exact cast_inj
  · intro e
    rw [e]
theorem pEq_nm (neg : Bool) (as bs : List Nat) : pEq neg [.lst (as.map nm), .lst (bs.map nm)] = some (.bl (if neg then !decide (as = bs) else decide (as = bs))) := by
  have h : pEq neg [.lst (as.map nm), .lst (bs.map nm)] = pEqv neg [.lst (as.map nm), .lst (bs.map nm)] := rfl
  rw [h]
  simp only [pEqv, D.py, pyL_nm, Option.map_some, shaped_nm, eqv_nm, Bool.and_self, if_true]
theorem pEq_nil (neg : Bool) (as : List Nat) : pEq neg [.lst (as.map nm), .lst []] = some (.bl (if neg then !decide (as = []) else decide (as = []))) := pEq_nm neg as []
theorem seqIx_nat {y n : Nat} (h : y < n) : seqIndex? (y : Int) n = some y := by
  unfold seqIndex?
  have hn : ¬ (y : Int) < 0 := by omega
  have hp : (0 : Int) ≤ (y : Int) := by omega
  simp [hn, hp, h]
theorem map_erase {α β : Type} (f : α → β) : ∀ (l : List α) (i : Nat), (l.map f).eraseIdx i = (l.eraseIdx i).map f
  | [], _ => rfl
  | _ :: _, 0 => rfl
  | a :: l, i + 1 => by simp [map_erase f l i]
theorem intsD_nm (F : List Nat) : intsD (F.map nm) = some (F.map fun (k : Nat) => (k : Int)) := by
  have h := intsD_map (F.map fun (k : Nat) => (k : Int))
  rw [List.map_map] at h
  exact h
theorem nat_list : ∀ {l : List Int}, (∀ x ∈ l, 0 ≤ x) → ∃ F : List Nat, l = F.map (fun (k : Nat) => (k : Int)) ∧ F.length = l.length
  | [], _ => ⟨[], rfl, rfl⟩
  | x :: l, h => by
    obtain ⟨F, h1, h2⟩ := nat_list (l := l) fun y hy => h y (List.mem_cons_of_mem _ hy)
    have := h x List.mem_cons_self
    exact ⟨x.toNat :: F, by rw [List.map_cons, ← h1, Int.toNat_of_nonneg this], by simp [h2]⟩
theorem mem_cast {F : List Nat} {k : Nat} (h : (k : Int) ∈ F.map (fun (k : Nat) => (k : Int))) : k ∈ F := by
  obtain ⟨j, hj, e⟩ := List.mem_map.mp h
  rw [show k = j by omega]
  exact hj
theorem setI_nm (F : List Nat) : ∃ F' : List Nat, setI (F.map fun (k : Nat) => (k : Int)) = F'.map (fun (k : Nat) => (k : Int)) ∧ (∀ k ∈ F', k ∈ F) ∧ F'.length ≤ F.length := by
  have hm : ∀ x ∈ setI (F.map fun (k : Nat) => (k : Int)), x ∈ F.map fun (k : Nat) => (k : Int) := fun x hx => setI_mem.mp hx
  obtain ⟨F', h1, h2⟩ := nat_list (l := setI (F.map fun (k : Nat) => (k : Int))) fun x hx => by
    obtain ⟨k, _, rfl⟩ := List.mem_map.mp (hm x hx)
    omega
  refine ⟨F', h1, fun k hk => mem_cast (hm k (by rw [h1]; exact List.mem_map.mpr ⟨k, hk, rfl⟩)), ?_⟩
  rw [h2]
  unfold setI
  rw [(sortI_perm _).length_eq]
  have := dedI_le (F.map fun (k : Nat) => (k : Int))
  rwa [List.length_map] at this
theorem sortI_nm (F : List Nat) : ∃ F' : List Nat, sortI (F.map fun (k : Nat) => (k : Int)) = F'.map (fun (k : Nat) => (k : Int)) ∧ (∀ k ∈ F', k ∈ F) ∧ F'.length = F.length := by
  have hp := sortI_perm (F.map fun (k : Nat) => (k : Int))
  obtain ⟨F', h1, h2⟩ := nat_list (l := sortI (F.map fun (k : Nat) => (k : Int))) fun x hx => by
    obtain ⟨k, _, rfl⟩ := List.mem_map.mp (hp.mem_iff.mp hx)
    omega
  refine ⟨F', h1, fun k hk => mem_cast (hp.mem_iff.mp (by rw [h1]; exact List.mem_map.mpr ⟨k, hk, rfl⟩)), ?_⟩
  rw [h2, hp.length_eq, List.length_map]
theorem pIn_lst (neg : Bool) (a : Nat) (ss : List Nat) : pIn neg [.int (a : Int), .lst (ss.map nm)] = some (.bl (if neg then !decide (a ∈ ss) else decide (a ∈ ss))) := by
  simp only [pIn, D.has, flatD, flatsD_nm, inV_nm, Option.map_some]
theorem pIn_tup (neg : Bool) (a : Nat) (ss : List Nat) : pIn neg [.int (a : Int), .tup (ss.map nm)] = some (.bl (if neg then !decide (a ∈ ss) else decide (a ∈ ss))) := by
  simp only [pIn, D.has, flatD, flatsD_nm, inV_nm, Option.map_some]
theorem atI_0 {α : Type} (x : α) (xs : List α) : atI (x :: xs) 0 = some x := by
  have := atI_nat (x :: xs) 0
  simpa using this
theorem atI_1 {α : Type} (x y : α) (xs : List α) : atI (x :: y :: xs) 1 = some y := by
  have := atI_nat (x :: y :: xs) 1
  simpa using this
theorem atI_2 {α : Type} (x y z : α) (xs : List α) : atI (x :: y :: z :: xs) 2 = some z := by
  have := atI_nat (x :: y :: z :: xs) 2
  simpa using this
theorem atI_3 {α : Type} (x y z u : α) (xs : List α) : atI (x :: y :: z :: u :: xs) 3 = some u := by
  have := atI_nat (x :: y :: z :: u :: xs) 3
  simpa using this
theorem rg_1 (n : Nat) : (rgI 1 (n : Int)).map D.int = (List.range (n - 1)).map fun i => nm (1 + i) := by
  unfold rgI
  rw [List.map_map, show ((n : Int) - 1).toNat = n - 1 by omega]
  exact List.map_congr_left fun i _ => by simp [nm]
theorem rgOk_1 {n : Nat} (h : n ≤ 1000) : rgOk 1 (n : Int) = true := by
  rw [rgOk_iff]
  omega
theorem rg_nat2 (a b : Nat) : (rgI ((a : Int) + 1) (b : Int)).map D.int = (List.range (b - (a + 1))).map fun i => nm (a + 1 + i) := by
  unfold rgI
  rw [List.map_map, show ((b : Int) - ((a : Int) + 1)).toNat = b - (a + 1) by omega]
  exact List.map_congr_left fun i _ => by simp [nm]
theorem rgOk_nat2 {a b : Nat} (h : a ≤ 1000) (h' : b ≤ 1000) : rgOk ((a : Int) + 1) (b : Int) = true := by
  rw [rgOk_iff]
  omega
theorem mp_get {α : Type} {f : Nat → α} {n i : Nat} {d : α} (h : ((List.range n).map f)[i]? = some d) : i < n ∧ d = f i := by
  rw [List.getElem?_map] at h
  by_cases hi : i < n
  · rw [List.getElem?_range hi] at h
    cases h
    exact ⟨hi, rfl⟩
  · rw [List.getElem?_eq_none (by simpa using hi)] at h
    cases h
end VL
set_option maxHeartbeats 4000000
/-! Places that hang together by some ties. -/
namespace VL
section
variable {ps : List (Nat × Nat)} {N N' : List Nat}
/-- a tie of these numbers joins x and y -/
def Ad (ps : List (Nat × Nat)) (N : List Nat) (x y : Nat) : Prop := ∃ i ∈ N, ∃ q, ps[i]? = some q ∧ ((q.1 = x ∧ q.2 = y) ∨ (q.1 = y ∧ q.2 = x))
inductive Cn (ps : List (Nat × Nat)) (N : List Nat) (x : Nat) : Nat → Prop
  | rfl : Cn ps N x x
  | step {y z : Nat} (h : Cn ps N x y) (a : Ad ps N y z) : Cn ps N x z
theorem Ad.symm {x y : Nat} (h : Ad ps N x y) : Ad ps N y x := by
  obtain ⟨i, hi, q, hq, h⟩ := h
  exact ⟨i, hi, q, hq, h.symm⟩
theorem Ad.mono (s : ∀ i ∈ N, i ∈ N') {x y : Nat} (h : Ad ps N x y) : Ad ps N' x y := by
  obtain ⟨i, hi, q, hq, h⟩ := h
  exact ⟨i, s i hi, q, hq, h⟩
theorem Cn.trans {x y z : Nat} (h : Cn ps N x y) (k : Cn ps N y z) : Cn ps N x z := by
  induction k with
  | rfl => exact h
  | step _ a ih => exact .step ih a
theorem Cn.symm {x y : Nat} (h : Cn ps N x y) : Cn ps N y x := by
  induction h with
  | rfl => exact .rfl
  | step _ a ih => exact Cn.trans (.step .rfl a.symm) ih
theorem Cn.mono (s : ∀ i ∈ N, i ∈ N') {x y : Nat} (h : Cn ps N x y) : Cn ps N' x y := by
  induction h with
  | rfl => exact .rfl
  | step _ a ih => exact .step ih (a.mono s)
theorem Cn.nil {x y : Nat} (h : Cn ps [] x y) : x = y := by
  induction h with
  | rfl => rfl
  | step _ a ih =>
    obtain ⟨i, hi, _⟩ := a
    cases hi
/-- one tie more -/
theorem Cn.add {k : Nat} {q : Nat × Nat} (hk : ps[k]? = some q) {x y : Nat} : Cn ps (N ++ [k]) x y ↔ Cn ps N x y ∨ (Cn ps N x q.1 ∧ Cn ps N q.2 y) ∨ (Cn ps N x q.2 ∧ Cn ps N q.1 y) := by
  constructor
  · intro h
    induction h with
    | rfl => exact .inl .rfl
    | @step y z h a ih =>
      obtain ⟨i, hi, r, hr, ha⟩ := a
      rcases List.mem_append.mp hi with hi | hi
      · have a' : Ad ps N y z := ⟨i, hi, r, hr, ha⟩
        rcases ih with h1 | ⟨h1, h2⟩ | ⟨h1, h2⟩
        · exact .inl (.step h1 a')
        · exact .inr (.inl ⟨h1, .step h2 a'⟩)
        · exact .inr (.inr ⟨h1, .step h2 a'⟩)
      · rw [List.mem_singleton.mp hi, hk] at hr
        cases hr
        rcases ha with ⟨e1, e2⟩ | ⟨e1, e2⟩
        · rw [← e2]
          rw [← e1] at ih
          rcases ih with h1 | ⟨h1, h2⟩ | ⟨h1, h2⟩
          · exact .inr (.inl ⟨h1, .rfl⟩)
          · exact .inr (.inl ⟨h1, .rfl⟩)
          · exact .inl h1
        · rw [← e1]
          rw [← e2] at ih
          rcases ih with h1 | ⟨h1, h2⟩ | ⟨h1, h2⟩
          · exact .inr (.inr ⟨h1, .rfl⟩)
          · exact .inl h1
          · exact .inr (.inr ⟨h1, .rfl⟩)
  · have up : ∀ {a b : Nat}, Cn ps N a b → Cn ps (N ++ [k]) a b := fun h => h.mono fun i hi => List.mem_append_left _ hi
    have e : Ad ps (N ++ [k]) q.1 q.2 := ⟨k, by simp, q, hk, .inl ⟨Eq.refl _, Eq.refl _⟩⟩
    rintro (h | ⟨h1, h2⟩ | ⟨h1, h2⟩)
    · exact up h
    · exact (Cn.step (up h1) e).trans (up h2)
    · exact (Cn.step (up h1) e.symm).trans (up h2)
/-- what hangs together with x, if no tie leads out of K -/
theorem Cn.closed {x y : Nat} {K : Nat → Prop} (hx : K x) (cl : ∀ a b, K a → Ad ps N a b → K b) (h : Cn ps N x y) : K y := by
  induction h with
  | rfl => exact hx
  | step _ a ih => exact cl _ _ ih a
/-- no tie joins what those ahead hold together -/
def Free (ps : List (Nat × Nat)) (N : List Nat) (m : Nat) : Prop := ∀ i, i < m → ∀ k q, N[i]? = some k → ps[k]? = some q → ¬ Cn ps (N.take i) q.1 q.2
theorem Free.succ {m k : Nat} {q : Nat × Nat} (hk : N[m]? = some k) (hq : ps[k]? = some q) : Free ps N (m + 1) ↔ Free ps N m ∧ ¬ Cn ps (N.take m) q.1 q.2 := by
  constructor
  · intro h
    exact ⟨fun i hi => h i (by omega), h m (by omega) k q hk hq⟩
  · rintro ⟨h1, h2⟩ i hi k' q' hk' hq'
    rcases Nat.lt_succ_iff_lt_or_eq.mp hi with hi | rfl
    · exact h1 i hi k' q' hk' hq'
    · rw [hk] at hk'
      cases hk'
      rw [hq] at hq'
      cases hq'
      exact h2
/-- the labels of places -/
def Lab (n : Nat) (lab : List Nat) (ps : List (Nat × Nat)) (F : List Nat) : Prop := lab.length = n ∧ ∀ x y, x < n → y < n → (lab[x]? = lab[y]? ↔ Cn ps F x y)
theorem Lab.start (n : Nat) (ps : List (Nat × Nat)) : Lab n (List.range n) ps [] := by
  refine ⟨by simp, fun x y hx hy => ?_⟩
  rw [List.getElem?_range hx, List.getElem?_range hy]
  constructor
  · intro e
    cases e
    exact .rfl
  · intro h
    rw [h.nil]
theorem Lab.step {n : Nat} {lab F : List Nat} {k a b : Nat} {q : Nat × Nat} (L : Lab n lab ps F) (hk : ps[k]? = some q) (h1 : q.1 < n) (h2 : q.2 < n) (ha : lab[q.1]? = some a) (hb : lab[q.2]? = some b) :
    Lab n (lab.map fun l => if l = b then a else l) ps (F ++ [k]) := by
  obtain ⟨hl, hL⟩ := L
  refine ⟨by simp [hl], fun x y hx hy => ?_⟩
  rw [Cn.add hk, List.getElem?_map, List.getElem?_map]
  have ex : ∃ lx, lab[x]? = some lx := ⟨_, List.getElem?_eq_getElem (by omega)⟩
  have ey : ∃ ly, lab[y]? = some ly := ⟨_, List.getElem?_eq_getElem (by omega)⟩
  obtain ⟨lx, ex⟩ := ex
  obtain ⟨ly, ey⟩ := ey
  have c0 := hL x y hx hy
  have c1 := hL x q.1 hx h1
  have c2 := hL x q.2 hx h2
  have c3 := hL q.1 y h1 hy
  have c4 := hL q.2 y h2 hy
  rw [ex, ey] at c0
  rw [ex, ha] at c1
  rw [ex, hb] at c2
  rw [ha, ey] at c3
  rw [hb, ey] at c4
  rw [ex, ey, ← c0, ← c1, ← c2, ← c3, ← c4]
  simp only [Option.map_some, Option.some.injEq]
  by_cases z1 : lx = b <;> by_cases z2 : ly = b
  · rw [if_pos z1, if_pos z2]
    simp [z1, z2]
  · rw [if_pos z1, if_neg z2]
    constructor
    · intro e
      exact .inr (.inr ⟨z1, e⟩)
    · rintro (e | ⟨e1, e2⟩ | ⟨e1, e2⟩)
      · exact absurd (e.symm.trans z1) z2
      · exact absurd e2.symm z2
      · exact e2
  · rw [if_neg z1, if_pos z2]
    constructor
    · intro e
      exact .inr (.inl ⟨e, z2.symm⟩)
    · rintro (e | ⟨e1, e2⟩ | ⟨e1, e2⟩)
      · exact absurd (e.trans z2) z1
      · exact e1
      · exact absurd e1 z1
  · rw [if_neg z1, if_neg z2]
    constructor
    · exact .inl
    · rintro (e | ⟨e1, e2⟩ | ⟨e1, e2⟩)
      · exact e
      · exact absurd e2.symm z2
      · exact absurd e1 z1
end
/-- unlike numbers below n are no more than n -/
theorem nodup_le {n : Nat} : ∀ {l : List Nat}, l.Nodup → (∀ x ∈ l, x < n) → l.length ≤ n := by
  induction n with
  | zero =>
    intro l _ h
    cases l with
    | nil => simp
    | cons a l => exact absurd (h a List.mem_cons_self) (Nat.not_lt_zero _)
  | succ n ih =>
    intro l nd h
    have h1 := ih (l := l.erase n) (nd.erase n) fun x hx => by
      have := (List.Nodup.mem_erase_iff nd).mp hx
      have := h x this.2
      omega
    have := List.length_erase (a := n) (l := l)
    split at this <;> omega
/-- a walk from a by unlike places: the last place, the ties, the places -/
inductive Wk (ps : List (Nat × Nat)) (N : List Nat) (a : Nat) : Nat → List Nat → List Nat → Prop
  | nil : Wk ps N a a [] [a]
  | snoc {y z k : Nat} {q : Nat × Nat} {w vs : List Nat} (h : Wk ps N a y w vs) (hk : k ∈ N) (hq : ps[k]? = some q) (j : (q.1 = y ∧ q.2 = z) ∨ (q.1 = z ∧ q.2 = y)) (nz : z ∉ vs) : Wk ps N a z (w ++ [k]) (vs ++ [z])
theorem Wk.cn {ps : List (Nat × Nat)} {N : List Nat} {a x : Nat} {w vs : List Nat} (h : Wk ps N a x w vs) : Cn ps N a x := by
  induction h with
  | nil => exact .rfl
  | snoc _ hk hq j _ ih => exact .step ih ⟨_, hk, _, hq, j⟩
/-- the search: keys with their ways, what is still to be looked at -/
structure Sr (ps : List (Nat × Nat)) (N : List Nat) (n a : Nat) (al : List (Nat × List Nat)) (R : List Nat) (P : Nat → Nat → Prop) : Prop where
  nd : (al.map (·.1)).Nodup
  lt : ∀ p ∈ al, p.1 < n
  wk : ∀ p ∈ al, p.2.length < al.length ∧ ∃ vs, Wk ps N a p.1 p.2 vs ∧ ∀ v ∈ vs, v ∈ al.map (·.1)
  ha : a ∈ al.map (·.1)
  hR : ∀ x ∈ R, x ∈ al.map (·.1)
  hl : R.length ≤ al.length
  cl : ∀ x ∈ al.map (·.1), x ∉ R → ∀ y, Ad ps N x y → y ∈ al.map (·.1) ∨ P x y
theorem Sr.size {ps : List (Nat × Nat)} {N : List Nat} {n a : Nat} {al : List (Nat × List Nat)} {R : List Nat} {P : Nat → Nat → Prop} (S : Sr ps N n a al R P) : al.length ≤ n := by
  have := nodup_le (n := n) S.nd fun x hx => by
    obtain ⟨p, hp, rfl⟩ := List.mem_map.mp hx
    exact S.lt p hp
  simpa using this
theorem Sr.start {ps : List (Nat × Nat)} {N : List Nat} {n a : Nat} (h : a < n) : Sr ps N n a [(a, [])] [a] fun _ _ => False where
  nd := by simp
  lt := fun p hp => by rw [List.mem_singleton.mp hp]; exact h
  wk := fun p hp => by
    rw [List.mem_singleton.mp hp]
    exact ⟨by simp, [a], .nil, by simp⟩
  ha := by simp
  hR := by simp
  hl := by simp
  cl := fun x hx hr => by
    simp at hx hr
    exact absurd hx hr
/-- one key more -/
theorem Sr.more {ps : List (Nat × Nat)} {N : List Nat} {n a x y k : Nat} {q : Nat × Nat} {w : List Nat} {al : List (Nat × List Nat)} {R : List Nat} {P : Nat → Nat → Prop} (S : Sr ps N n a al R P) (hx : (x, w) ∈ al) (hk : k ∈ N) (hq : ps[k]? = some q) (j : (q.1 = x ∧ q.2 = y) ∨ (q.1 = y ∧ q.2 = x)) (hy : y < n) (ny : y ∉ al.map (·.1)) :
    Sr ps N n a (al ++ [(y, w ++ [k])]) (R ++ [y]) P where
  nd := by
    rw [List.map_append, List.nodup_append]
    exact ⟨S.nd, by simp, fun u hu v hv e => by simp at hv; rw [e, hv] at hu; exact ny hu⟩
  lt := fun p hp => by
    rcases List.mem_append.mp hp with hp | hp
    · exact S.lt p hp
    · rw [List.mem_singleton.mp hp]
      exact hy
  wk := fun p hp => by
    have up : ∀ v, v ∈ al.map (·.1) → v ∈ (al ++ [(y, w ++ [k])]).map (·.1) := fun v hv => by rw [List.map_append]; exact List.mem_append_left _ hv
    rcases List.mem_append.mp hp with hp | hp
    · obtain ⟨h1, vs, h2, h3⟩ := S.wk p hp
      exact ⟨by rw [List.length_append]; omega, vs, h2, fun v hv => up v (h3 v hv)⟩
    · rw [List.mem_singleton.mp hp]
      obtain ⟨h1, vs, h2, h3⟩ := S.wk _ hx
      refine ⟨by simp at h1 ⊢; omega, vs ++ [y], .snoc h2 hk hq j (fun z => ny (h3 _ z)), fun v hv => ?_⟩
      rcases List.mem_append.mp hv with hv | hv
      · exact up v (h3 v hv)
      · rw [List.mem_singleton.mp hv]
        simp
  ha := by rw [List.map_append]; exact List.mem_append_left _ S.ha
  hR := fun u hu => by
    rw [List.map_append]
    rcases List.mem_append.mp hu with hu | hu
    · exact List.mem_append_left _ (S.hR u hu)
    · rw [List.mem_singleton.mp hu]
      simp
  hl := by
    have := S.hl
    simp
    exact this
  cl := fun u hu nu v hv => by
    rw [List.map_append] at hu ⊢
    rcases List.mem_append.mp hu with hu | hu
    · rcases S.cl u hu (fun z => nu (List.mem_append_left _ z)) v hv with h | h
      · exact .inl (List.mem_append_left _ h)
      · exact .inr h
    · simp at hu
      rw [hu] at nu
      exact absurd (by simp) nu
theorem Sr.imp {ps : List (Nat × Nat)} {N : List Nat} {n a : Nat} {al : List (Nat × List Nat)} {R : List Nat} {P P' : Nat → Nat → Prop} (S : Sr ps N n a al R P) (h : ∀ x y, x ∈ al.map (·.1) → x ∉ R → Ad ps N x y → P x y → y ∈ al.map (·.1) ∨ P' x y) : Sr ps N n a al R P' :=
  ⟨S.nd, S.lt, S.wk, S.ha, S.hR, S.hl, fun x hx hr y hy => (S.cl x hx hr y hy).elim .inl (h x y hx hr hy)⟩
theorem Sr.pop {ps : List (Nat × Nat)} {N : List Nat} {n a x : Nat} {al : List (Nat × List Nat)} {R : List Nat} {P : Nat → Nat → Prop} (S : Sr ps N n a al (R ++ [x]) P) : Sr ps N n a al R fun u v => P u v ∨ u = x where
  nd := S.nd
  lt := S.lt
  wk := S.wk
  ha := S.ha
  hR := fun u hu => S.hR u (List.mem_append_left _ hu)
  hl := by
    have := S.hl
    simp at this
    omega
  cl := fun u hu nu v hv => by
    by_cases z : u = x
    · exact .inr (.inr z)
    · rcases S.cl u hu (fun w => by
        rcases List.mem_append.mp w with w | w
        · exact nu w
        · exact z (List.mem_singleton.mp w)) v hv with h | h
      · exact .inl h
      · exact .inr (.inl h)
end VL
set_option maxHeartbeats 4000000
/-! Lanes that lead out of a root: one into each other place, and no ring. -/
namespace VL
section
variable {ps : List (Nat × Nat)} {N : List Nat} {n : Nat}
theorem greedy (hps : ∀ q ∈ ps, q.1 < n ∧ q.2 < n) (hN : ∀ k ∈ N, k < ps.length) : ∀ i, i ≤ N.length → ∃ lab F Dl : List Nat, Lab n lab ps F ∧ (∀ x y, Cn ps F x y ↔ Cn ps (N.take i) x y) ∧ Dl.Nodup ∧ (∀ v, v ∈ Dl ↔ v ∈ lab) ∧ Dl.length + F.length = n ∧ F.length ≤ i ∧ (Free ps N i → F.length = i) ∧ (¬ Free ps N i → F.length < i)
  | 0, _ => ⟨List.range n, [], List.range n, Lab.start n ps, fun _ _ => Iff.rfl, List.nodup_range, fun _ => Iff.rfl, by simp, Nat.le_refl _, fun _ => rfl, fun h => absurd (fun i hi => absurd hi (Nat.not_lt_zero _)) h⟩
  | i + 1, hi => by
    obtain ⟨lab, F, Dl, L, hc, nd, hm, hs, h1, h2, h3⟩ := greedy hps hN i (by omega)
    have hk : N[i]? = some N[i] := List.getElem?_eq_getElem (by omega)
    generalize N[i] = k at hk
    have hkN := List.mem_of_getElem? hk
    have hq : ps[k]? = some (ps[k]'(hN k hkN)) := List.getElem?_eq_getElem _
    generalize ps[k]'(hN k hkN) = q at hq
    have hqn := hps q (List.mem_of_getElem? hq)
    have ha : lab[q.1]? = some (lab[q.1]'(by rw [L.1]; exact hqn.1)) := List.getElem?_eq_getElem _
    have hb : lab[q.2]? = some (lab[q.2]'(by rw [L.1]; exact hqn.2)) := List.getElem?_eq_getElem _
    generalize lab[q.1]'(by rw [L.1]; exact hqn.1) = a at ha
    generalize lab[q.2]'(by rw [L.1]; exact hqn.2) = b at hb
    have hab := L.2 q.1 q.2 hqn.1 hqn.2
    rw [ha, hb, Option.some.injEq, hc] at hab
    have hT : N.take (i + 1) = N.take i ++ [k] := by rw [List.take_succ, hk]; rfl
    have fs := Free.succ hk hq
    by_cases z : a = b
    · have cq := hab.mp z
      refine ⟨lab, F, Dl, L, fun x y => ?_, nd, hm, hs, by omega, fun f => absurd cq (fs.mp f).2, fun _ => by omega⟩
      rw [hT, Cn.add hq, hc]
      constructor
      · exact .inl
      · rintro (h | ⟨g1, g2⟩ | ⟨g1, g2⟩)
        · exact h
        · exact (g1.trans cq).trans g2
        · exact (g1.trans cq.symm).trans g2
    · have am := List.mem_of_getElem? ha
      have bm := List.mem_of_getElem? hb
      refine ⟨_, F ++ [k], Dl.erase b, L.step hq hqn.1 hqn.2 ha hb, fun x y => ?_, nd.erase b, fun v => ?_, ?_, ?_, fun f => ?_, fun f => ?_⟩
      · rw [hT, Cn.add hq, Cn.add hq, hc, hc, hc, hc, hc]
      · rw [List.Nodup.mem_erase_iff nd, hm, List.mem_map]
        constructor
        · rintro ⟨g1, g2⟩
          exact ⟨v, g2, if_neg g1⟩
        · rintro ⟨l, g1, g2⟩
          by_cases zl : l = b
          · rw [if_pos zl] at g2
            rw [← g2]
            exact ⟨z, am⟩
          · rw [if_neg zl] at g2
            rw [← g2]
            exact ⟨zl, g1⟩
      · rw [List.length_erase_of_mem ((hm b).mpr bm), List.length_append, List.length_singleton]
        have : 0 < Dl.length := List.length_pos_of_mem ((hm b).mpr bm)
        omega
      · rw [List.length_append, List.length_singleton]
        omega
      · rw [List.length_append, List.length_singleton, h2 (fs.mp f).1]
      · rw [List.length_append, List.length_singleton]
        have : ¬ Free ps N i := fun g => f (fs.mpr ⟨g, fun c => z (hab.mpr c)⟩)
        have := h3 this
        omega
theorem one_of_nodup {l : List Nat} {c : Nat} (nd : l.Nodup) (h : ∀ v ∈ l, v = c) : l.length ≤ 1 := by
  match l, nd, h with
  | [], _, _ => simp
  | [_], _, _ => simp
  | a :: b :: l, nd, h =>
    have h1 := h a (by simp)
    have h2 := h b (by simp)
    rw [List.nodup_cons] at nd
    exact absurd (by rw [h1, h2]; simp) nd.1
theorem conn_free (hn : 1 ≤ n) (hps : ∀ q ∈ ps, q.1 < n ∧ q.2 < n) (hN : ∀ k ∈ N, k < ps.length) (hl : N.length = n - 1) : Free ps N N.length ↔ ∀ x y, x < n → y < n → Cn ps N x y := by
  obtain ⟨lab, F, Dl, L, hc, nd, hm, hs, h1, h2, h3⟩ := greedy hps hN N.length (Nat.le_refl _)
  rw [List.take_length] at hc
  constructor
  · intro f
    have hD : Dl.length = 1 := by
      have := h2 f
      omega
    intro x y hx hy
    rw [← hc, ← L.2 x y hx hy]
    have ex : lab[x]? = some (lab[x]'(by rw [L.1]; exact hx)) := List.getElem?_eq_getElem _
    have ey : lab[y]? = some (lab[y]'(by rw [L.1]; exact hy)) := List.getElem?_eq_getElem _
    have mx := (hm _).mpr (List.mem_of_getElem? ex)
    have my := (hm _).mpr (List.mem_of_getElem? ey)
    obtain ⟨c, hcD⟩ := List.length_eq_one_iff.mp hD
    rw [hcD, List.mem_singleton] at mx my
    rw [ex, ey, mx, my]
  · intro h
    refine Classical.byContradiction fun f => ?_
    have hF := h3 f
    have e0 : lab[0]? = some (lab[0]'(by rw [L.1]; omega)) := List.getElem?_eq_getElem _
    have : Dl.length ≤ 1 := one_of_nodup (c := lab[0]'(by rw [L.1]; omega)) nd fun v hv => by
      obtain ⟨j, hj, e⟩ := List.mem_iff_getElem.mp ((hm v).mp hv)
      have := (L.2 j 0 (by rw [← L.1]; exact hj) (by omega)).mpr ((hc _ _).mpr (h j 0 (by rw [← L.1]; exact hj) (by omega)))
      rw [e0, List.getElem?_eq_getElem hj, e] at this
      exact Option.some.inj this
    omega
/-- where lanes lead to, out of r -/
inductive Rh (ps : List (Nat × Nat)) (N : List Nat) (r : Nat) : Nat → Prop
  | root : Rh ps N r r
  | step {k : Nat} {q : Nat × Nat} (h : Rh ps N r q.1) (hk : k ∈ N) (hq : ps[k]? = some q) : Rh ps N r q.2
theorem Rh.cn {r v : Nat} (h : Rh ps N r v) : Cn ps N r v := by
  induction h with
  | root => exact .rfl
  | step _ hk hq ih => exact .step ih ⟨_, hk, _, hq, .inl ⟨rfl, rfl⟩⟩
def goal (ps : List (Nat × Nat)) (k : Nat) : Nat := (ps.getD k (0, 0)).2
theorem goal_of {k : Nat} {q : Nat × Nat} (h : ps[k]? = some q) : goal ps k = q.2 := by
  unfold goal
  rw [List.getD_eq_getElem?_getD, h]
  rfl
theorem inj_map {α : Type} {f : Nat → α} : ∀ {l : List Nat}, (l.map f).Nodup → ∀ {a b : Nat}, a ∈ l → b ∈ l → f a = f b → a = b
  | [], _, _, _, h, _, _ => by cases h
  | x :: l, nd, a, b, ha, hb, e => by
    rw [List.map_cons, List.nodup_cons] at nd
    rcases List.mem_cons.mp ha with ha' | ha'
    · rcases List.mem_cons.mp hb with hb' | hb'
      · rw [ha', hb']
      · exact absurd (List.mem_map.mpr ⟨b, hb', by rw [← e, ha']⟩) nd.1
    · rcases List.mem_cons.mp hb with hb' | hb'
      · exact absurd (List.mem_map.mpr ⟨a, ha', by rw [e, hb']⟩) nd.1
      · exact inj_map nd.2 ha' hb' e
abbrev othL (n r : Nat) : List Nat := (List.range n).filter fun v => decide (v ≠ r)
theorem oth_len {r : Nat} (hr : r < n) : (othL n r).length = n - 1 := by
  have h := List.Nodup.erase_eq_filter (List.nodup_range (n := n)) r
  have e : othL n r = (List.range n).erase r := by
    rw [h]
    refine List.filter_congr fun v _ => ?_
    by_cases h : v = r <;> simp [h]
  rw [e, List.length_erase_of_mem (List.mem_range.mpr hr), List.length_range]
theorem spread_iff {r : Nat} (hr : r < n) (hps : ∀ q ∈ ps, q.1 < n ∧ q.2 < n) (hN : ∀ k ∈ N, k < ps.length) (hG : (N.map (goal ps)).Perm (othL n r)) : Free ps N N.length ↔ ∀ v, v < n → Rh ps N r v := by
  have hl : N.length = n - 1 := by
    have := hG.length_eq
    rw [List.length_map, oth_len hr] at this
    exact this
  have nd : (N.map (goal ps)).Nodup := hG.nodup_iff.mpr (List.nodup_range.filter _)
  rw [conn_free (by omega) hps hN hl]
  constructor
  · intro h v hv
    have c := h r v hr hv
    induction c with
    | rfl => exact .root
    | @step y z c a ih =>
      have hy : Rh ps N r y := ih (by
        obtain ⟨k, hk, q, hq, j⟩ := a
        have := hps q (List.mem_of_getElem? hq)
        rcases j with ⟨e1, e2⟩ | ⟨e1, e2⟩ <;> omega)
      obtain ⟨k, hk, q, hq, ⟨e1, e2⟩ | ⟨e1, e2⟩⟩ := a
      · rw [← e2]
        exact .step (by rw [e1]; exact hy) hk hq
      · rw [← e1]
        have gk := goal_of hq
        cases hy with
        | root =>
          have : goal ps k ∈ othL n r := hG.mem_iff.mp (List.mem_map.mpr ⟨k, hk, rfl⟩)
          rw [gk, e2] at this
          simp at this
        | @step k' q' h' hk' hq' =>
          have gk' := goal_of hq'
          have ek := inj_map nd hk hk' (by rw [gk, gk', e2])
          subst ek
          rw [hq] at hq'
          cases hq'
          exact h'
  · intro h x y hx hy
    exact (h x hx).cn.symm.trans (h y hy).cn
end
end VL
set_option maxHeartbeats 8000000
namespace VL
open PySem PySem.Spec PyProof.Rows L2
open GxR (TabB TabG Tabbed)
noncomputable section
/-! others_than -/
def d_others_than_1 : EF := (eVar 2)
def d_others_than_2 : TF := (toT (ePrim (pEq true) (lCons (eVar 2) (lCons (eVar 1) lNil))))
def d_others_than : SF := (sRet true (.top []) (eLc .own (iRg (rg1 (ePrim pIx (lCons (eVar 0) (lCons (eC (.int 0)) lNil))))) (fun b => (gSet (.pr b) 2)) d_others_than_2 d_others_than_1 [2] []))
def f_others_than : FD := callD d_others_than 3 []
/-! way_by -/
def d_way_by_1 : SF := (sSeq (sSet 8 (.sub 0) (ePrim pIx (lCons (ePrim pIx (lCons (eVar 0) (lCons (eC (.int 1)) lNil))) (lCons (eVar 7) lNil))))
  (sIf (toT (ePrim (pIn false) (lCons (eVar 6) (lCons (eVar 8) lNil)))) (sSeq (sSet 9 .own (ePrim pSub (lCons (ePrim pSumA (lCons (eVar 8) lNil)) (lCons (eVar 6) lNil))))
  (sIf (toT (ePrim (pIn true) (lCons (eVar 9) (lCons (eVar 4) lNil)))) (sSeq (sSetIt 4 (.top [4, 7]) (ePrim pAdd (lCons (ePrim pIx (lCons (eVar 4) (lCons (eVar 6) lNil))) (lCons (ePrim pLst (lCons (eVar 7) lNil)) lNil))) (pName 4) (eVar 9))
  (sDrop (eMut "list" 5 (pName 5) [(.sub 9)] (lCons (eVar 9) lNil) opApp)))
  sNext))
  sNext))
def d_way_by_2 : TF := (tfAnd (toTr (eVar 5)) (toT (ePrim (pIn true) (lCons (eVar 3) (lCons (eVar 4) lNil)))))
def d_way_by_3 : SF := (sSeq (sSet 6 .own (eMut "list" 5 (pName 5) [] lNil opPop))
  (sFor (.sub 1) (iSeq (eVar 1)) (fun b => (gSet (.pr b) 7)) d_way_by_1))
def d_way_by : SF := (sSeq (sSet 4 .own (eDict1 (eVar 2) (ePrim pLst lNil)))
  (sSeq (sSet 5 (.top [2]) (ePrim pLst (lCons (eVar 2) lNil)))
  (sSeq (sWhile d_way_by_2 d_way_by_3)
  (sRet true (.sub 4) (ePrim pGet (lCons (eVar 4) (lCons (eVar 3) lNil)))))))
def f_way_by : FD := callD d_way_by 10 []
/-! _law_at -/
def d_law_at : SF := (sSeq (sIf (toT (ePrim pLt (lCons (eVar 1) (lCons (ePrim pLen (lCons (eVar 0) lNil)) lNil)))) (sRet true (.sub 0) (ePrim pIx (lCons (eVar 0) (lCons (eVar 1) lNil))))
  sNext)
  (sRet true .own (eC (.int 0))))
def f_law_at : FD := callD d_law_at 2 []
/-! _law_pot -/
def d_law_pot : SF := (sRet true .own (ePrim pLst (lCons (ePrim pMax (lCons (eC (.int 0)) (lCons (ePrim pSub (lCons (ePrim pAbs (lCons (eVar 0) lNil)) (lCons (ePrim pPow (lCons (eC (.int 10)) (lCons (eC (.int 18)) lNil))) lNil))) lNil))) (lCons (ePrim pAdd (lCons (ePrim pMod (lCons (ePrim pAbs (lCons (eVar 0) lNil)) (lCons (eC (.int 2147483563)) lNil))) (lCons (eC (.int 1)) lNil))) lNil))))
def f_law_pot : FD := callD d_law_pot 1 []
/-! _law_take -/
def d_law_take : SF := (sSeq (sIf (toT (ePrim pGt (lCons (ePrim pIx (lCons (eVar 0) (lCons (eC (.int 0)) lNil))) (lCons (eC (.int 0)) lNil)))) (sSeq (sPairSet 0 (pName 0) (eC (.int 0)) 2 (ePrim pDivmod (lCons (ePrim pIx (lCons (eVar 0) (lCons (eC (.int 0)) lNil))) (lCons (eVar 1) lNil))))
  (sRet true (.sub 2) (eVar 2)))
  sNext)
  (sSeq (sSetIt 0 .own (ePrim pMod (lCons (ePrim pAdd (lCons (ePrim pMul (lCons (ePrim pIx (lCons (eVar 0) (lCons (eC (.int 1)) lNil))) (lCons (eC (.int 39373)) lNil))) (lCons (eC (.int 7919)) lNil))) (lCons (eC (.int 2147483629)) lNil))) (pName 0) (eC (.int 1)))
  (sRet true .own (ePrim pMod (lCons (ePrim pFdiv (lCons (ePrim pMod (lCons (ePrim pMul (lCons (ePrim pIx (lCons (eVar 0) (lCons (eC (.int 1)) lNil))) (lCons (ePrim pIx (lCons (eVar 0) (lCons (eC (.int 1)) lNil))) lNil))) (lCons (eC (.int 2147483563)) lNil))) (lCons (eC (.int 11)) lNil))) (lCons (eVar 1) lNil))))))
def f_law_take : FD := callD d_law_take 3 [0]
/-! _law_is_spread -/
def d_law_is_spread_1 : SF := (sSeq (sAsg (ePrim pIx (lCons (ePrim pIx (lCons (eVar 0) (lCons (eC (.int 1)) lNil))) (lCons (eVar 5) lNil))) (gSeqE 2 (gsCons (gSet (.ex (.sub 0)) 6) (gsCons (gSet (.ex (.sub 0)) 7) gsNil))))
  (sIf (tfAnd (toT (ePrim (pIn false) (lCons (eVar 6) (lCons (eVar 3) lNil)))) (toT (ePrim (pIn true) (lCons (eVar 7) (lCons (eVar 3) lNil))))) (sDrop (eMut "list" 3 (pName 3) [(.sub 7)] (lCons (eVar 7) lNil) opApp))
  sNext))
def d_law_is_spread_2 : SF := (sFor (.sub 2) (iSeq (eVar 2)) (fun b => (gSet (.pr b) 5)) d_law_is_spread_1)
def d_law_is_spread_3 : EF := (ePrim pIx (lCons (ePrim pIx (lCons (ePrim pIx (lCons (eVar 0) (lCons (eC (.int 1)) lNil))) (lCons (eVar 5) lNil))) (lCons (eC (.int 1)) lNil)))
def d_law_is_spread_4 : EF := (eVar 9)
def d_law_is_spread_5 : TF := (toT (ePrim (pEq true) (lCons (eVar 9) (lCons (eVar 1) lNil))))
def d_law_is_spread : SF := (sSeq (sSet 3 (.top [1]) (ePrim pLst (lCons (eVar 1) lNil)))
  (sSeq (sFor .own (iRg (rg1 (ePrim pIx (lCons (eVar 0) (lCons (eC (.int 0)) lNil))))) (fun b => (gSet (.pr b) 4)) d_law_is_spread_2)
  (sSeq (sSet 8 (.top [2, 0]) (eLc (.sub 2) (iSeq (eVar 2)) (fun b => (gSet (.pr b) 5)) tYesF d_law_is_spread_3 [5] []))
  (sRet true .own (eAnd (ePrim (pEq false) (lCons (ePrim pLen (lCons (eVar 3) lNil)) (lCons (ePrim pIx (lCons (eVar 0) (lCons (eC (.int 0)) lNil))) lNil))) (ePrim (pEq false) (lCons (ePrim pSortedI (lCons (eVar 8) lNil)) (lCons (eLc .own (iRg (rg1 (ePrim pIx (lCons (eVar 0) (lCons (eC (.int 0)) lNil))))) (fun b => (gSet (.pr b) 9)) d_law_is_spread_5 d_law_is_spread_4 [9] []) lNil))))))))
def f_law_is_spread : FD := callD d_law_is_spread 10 []
/-! ring_in -/
def d_ring_in_1 : SF := (sSeq (sAsg (ePrim pIx (lCons (ePrim pIx (lCons (eVar 0) (lCons (eC (.int 1)) lNil))) (lCons (eVar 3) lNil))) (gSeqE 2 (gsCons (gSet (.ex (.sub 0)) 4) (gsCons (gSet (.ex (.sub 0)) 5) gsNil))))
  (sSeq (sSet 6 .own (eCall f_way_by [] (lCons (eVar 0) (lCons (eVar 2) (lCons (eVar 5) (lCons (eVar 4) lNil))))))
  (sSeq (sIf (toT (ePrim (pIsN true) (lCons (eVar 6) (lCons (eC .non) lNil)))) (sRet true (.top [3, 6]) (ePrim pAdd (lCons (ePrim pLst (lCons (eVar 3) lNil)) (lCons (eVar 6) lNil))))
  sNext)
  (sDrop (eMut "list" 2 (pName 2) [(.sub 3)] (lCons (eVar 3) lNil) opApp)))))
def d_ring_in : SF := (sSeq (sSet 2 .own (ePrim pLst lNil))
  (sSeq (sFor (.sub 1) (iSeq (eVar 1)) (fun b => (gSet (.pr b) 3)) d_ring_in_1)
  (sRet true .own (eC .non))))
def f_ring_in : FD := callD d_ring_in 7 []
/-! _law_pair -/
def d_law_pair : SF := (sSeq (sSet 2 .own (eCall f_law_take [0] (lCons (eVar 0) (lCons (eVar 1) lNil))))
  (sSeq (sSet 3 .own (eCall f_law_take [0] (lCons (eVar 0) (lCons (ePrim pSub (lCons (eVar 1) (lCons (eC (.int 1)) lNil))) lNil))))
  (sRet true .own (ePrim pTup (lCons (eOwn (.sub 2) (eVar 2)) (lCons (eOwn (.top [3]) (ePrim pAdd (lCons (eVar 3) (lCons (ePrim pInt (lCons (ePrim pGe (lCons (eVar 3) (lCons (eVar 2) lNil))) lNil)) lNil)))) lNil))))))
def f_law_pair : FD := callD d_law_pair 4 [0]
/-! _law_tied -/
def d_law_tied_1 : SF := (sDrop (eMut "list" 4 (pName 4) [(.top [1, 6])] (lCons (ePrim pTup (lCons (ePrim pAdd (lCons (eVar 1) (lCons (eCall f_law_take [0] (lCons (eVar 0) (lCons (ePrim pSub (lCons (eVar 6) (lCons (eVar 1) lNil))) lNil))) lNil))) (lCons (eVar 6) lNil))) lNil) opApp))
def d_law_tied_2 : SF := (sFor .own (iRg (rg2 (ePrim pAdd (lCons (eVar 1) (lCons (eC (.int 1)) lNil))) (eVar 2))) (fun b => (gSet (.pr b) 6)) d_law_tied_1)
def d_law_tied : SF := (sSeq (sSet 4 .own (ePrim pLst lNil))
  (sSeq (sFor .own (iRg (rg1 (eVar 3))) (fun b => (gSet (.pr b) 5)) d_law_tied_2)
  (sRet true (.sub 4) (eVar 4))))
def f_law_tied : FD := callD d_law_tied 7 [0]
/-! _law_turned -/
def d_law_turned_1 : SF := (sDrop (eMut "list" 3 (pName 3) [.own, (.sub 4)] (lCons (eCall f_law_take [0] (lCons (eVar 0) (lCons (ePrim pAdd (lCons (eVar 4) (lCons (eC (.int 1)) lNil))) lNil))) (lCons (eVar 4) lNil)) opIns))
def d_law_turned_2 : EF := (ePrim pTup (lCons (ePrim pIx (lCons (eVar 3) (lCons (eVar 5) lNil))) (lCons (ePrim pIx (lCons (eVar 3) (lCons (eVar 6) lNil))) lNil)))
def d_law_turned : SF := (sSeq (sSet 3 .own (ePrim pLst lNil))
  (sSeq (sFor .own (iRg (rg1 (eVar 1))) (fun b => (gSet (.pr b) 4)) d_law_turned_1)
  (sRet true (.top [2, 3, 3]) (eLc (.sub 2) (iSeq (eVar 2)) (fun b => (gTupE 2 (gsCons (gSet (.pr b) 5) (gsCons (gSet (.pr b) 6) gsNil)))) tYesF d_law_turned_2 [5, 6] []))))
def f_law_turned : FD := callD d_law_turned 7 [0]
/-! _law_grown -/
def d_law_grown_1 : SF := (sSeq (sAsg (ePrim pIx (lCons (ePrim pIx (lCons (eVar 1) (lCons (eC (.int 1)) lNil))) (lCons (eVar 7) lNil))) (gSeqE 2 (gsCons (gSet (.ex (.sub 1)) 8) (gsCons (gSet (.ex (.sub 1)) 9) gsNil))))
  (sIf (tfAnd (toT (ePrim (pIn false) (lCons (eVar 8) (lCons (eVar 3) lNil)))) (toT (ePrim (pIn true) (lCons (eVar 9) (lCons (eVar 3) lNil))))) (sDrop (eMut "list" 6 (pName 6) [(.sub 7)] (lCons (eVar 7) lNil) opApp))
  sNext))
def d_law_grown_2 : SF := (sSeq (sSet 6 .own (ePrim pLst lNil))
  (sSeq (sFor .own (iRg (rg1 (ePrim pLen (lCons (ePrim pIx (lCons (eVar 1) (lCons (eC (.int 1)) lNil))) lNil)))) (fun b => (gSet (.pr b) 7)) d_law_grown_1)
  (sIf (toT (ePrim (pEq true) (lCons (eVar 6) (lCons (ePrim pLst lNil) lNil)))) (sSeq (sSet 7 (.sub 6) (ePrim pIx (lCons (eVar 6) (lCons (eCall f_law_take [0] (lCons (eVar 0) (lCons (ePrim pLen (lCons (eVar 6) lNil)) lNil))) lNil))))
  (sSeq (sDrop (eMut "list" 4 (pName 4) [(.sub 7)] (lCons (eVar 7) lNil) opApp))
  (sDrop (eMut "list" 3 (pName 3) [(.sub 1)] (lCons (ePrim pIx (lCons (ePrim pIx (lCons (ePrim pIx (lCons (eVar 1) (lCons (eC (.int 1)) lNil))) (lCons (eVar 7) lNil))) (lCons (eC (.int 1)) lNil))) lNil) opApp))))
  sNext)))
def d_law_grown : SF := (sSeq (sSet 3 (.top [2]) (ePrim pLst (lCons (eVar 2) lNil)))
  (sSeq (sSet 4 .own (ePrim pLst lNil))
  (sSeq (sFor .own (iRg (rg1 (ePrim pIx (lCons (eVar 1) (lCons (eC (.int 0)) lNil))))) (fun b => (gSet (.pr b) 5)) d_law_grown_2)
  (sRet true .own (ePrim pSortedI (lCons (eVar 4) lNil))))))
def f_law_grown : FD := callD d_law_grown 10 [0]
/-! is_wood -/
def d_is_wood : SF := (sRet true .own (ePrim (pIsN false) (lCons (eCall f_ring_in [] (lCons (eVar 0) (lCons (eVar 1) lNil))) (lCons (eC .non) lNil))))
def f_is_wood : FD := callD d_is_wood 2 []
/-! _law_clumps -/
def d_law_clumps_1 : SF := (sDrop (eMut "list" 3 (pName 3) [(.top [2])] (lCons (ePrim pTup (lCons (eCall f_law_take [0] (lCons (eVar 0) (lCons (eVar 2) lNil))) (lCons (ePrim pAdd (lCons (eVar 2) (lCons (eCall f_law_take [0] (lCons (eVar 0) (lCons (ePrim pSub (lCons (eVar 1) (lCons (eVar 2) lNil))) lNil))) lNil))) lNil))) lNil) opApp))
def d_law_clumps : SF := (sSeq (sSet 2 .own (ePrim pAdd (lCons (eC (.int 1)) (lCons (eCall f_law_take [0] (lCons (eVar 0) (lCons (ePrim pSub (lCons (eVar 1) (lCons (eC (.int 1)) lNil))) lNil))) lNil))))
  (sSeq (sSet 3 .own (eCall f_law_tied [0] (lRef 0 (lCons (eC (.int 0)) (lCons (eVar 2) (lCons (ePrim pAdd (lCons (eC (.int 1)) (lCons (eCall f_law_take [0] (lCons (eVar 0) (lCons (eC (.int 3)) lNil))) lNil))) lNil))))))
  (sSeq (sSet 3 (.top [3]) (ePrim pAdd (lCons (eVar 3) (lCons (eCall f_law_tied [0] (lRef 0 (lCons (eVar 2) (lCons (eVar 1) (lCons (ePrim pAdd (lCons (eC (.int 1)) (lCons (eCall f_law_take [0] (lCons (eVar 0) (lCons (eC (.int 3)) lNil))) lNil))) lNil))))) lNil))))
  (sSeq (sFor .own (iRg (rg1 (eCall f_law_take [0] (lCons (eVar 0) (lCons (eC (.int 4)) lNil))))) (fun b => (gSet (.pr b) 4)) d_law_clumps_1)
  (sRet true (.sub 3) (eVar 3))))))
def f_law_clumps : FD := callD d_law_clumps 5 [0]
/-! _law_numbers -/
def d_law_numbers_1 : EF := (eVar 7)
def d_law_numbers_2 : TF := (toT (ePrim (pEq false) (lCons (eCall f_law_take [0] (lCons (eVar 0) (lCons (eC (.int 3)) lNil))) (lCons (eC (.int 0)) lNil))))
def d_law_numbers : SF := (sSeq (sSet 3 .own (eCall f_law_take [0] (lCons (eVar 0) (lCons (eC (.int 6)) lNil))))
  (sSeq (sSet 4 .own (ePrim pLen (lCons (ePrim pIx (lCons (eVar 1) (lCons (eC (.int 1)) lNil))) lNil)))
  (sSeq (sIf (toT (ePrim (pEq false) (lCons (eVar 3) (lCons (eC (.int 0)) lNil)))) (sRet true (.top []) (eLc .own (iRg (rg1 (eVar 4))) (fun b => (gSet (.pr b) 7)) d_law_numbers_2 d_law_numbers_1 [7] [0]))
  sNext)
  (sSeq (sSet 5 .own (eCall f_law_grown [0] (lCons (eVar 0) (lCons (eVar 1) (lCons (eVar 2) lNil)))))
  (sSeq (sIf (tfOr (toT (ePrim pLt (lCons (eVar 3) (lCons (eC (.int 3)) lNil)))) (toT (ePrim (pEq false) (lCons (eVar 4) (lCons (eC (.int 0)) lNil))))) (sRet true (.sub 5) (eVar 5))
  sNext)
  (sSeq (sSet 6 .own (eCall f_law_take [0] (lCons (eVar 0) (lCons (eVar 4) lNil))))
  (sSeq (sIf (tfAnd (toT (ePrim (pEq true) (lCons (eVar 3) (lCons (eC (.int 3)) lNil)))) (toT (ePrim (pEq true) (lCons (eVar 5) (lCons (ePrim pLst lNil) lNil))))) (sDrop (eMut "list" 5 (pName 5) [.own] (lCons (eCall f_law_take [0] (lCons (eVar 0) (lCons (ePrim pLen (lCons (eVar 5) lNil)) lNil))) lNil) opPop))
  sNext)
  (sSeq (sIf (tfAnd (toT (ePrim (pEq true) (lCons (eVar 3) (lCons (eC (.int 4)) lNil)))) (toT (ePrim (pIn true) (lCons (eVar 6) (lCons (eVar 5) lNil))))) (sDrop (eMut "list" 5 (pName 5) [(.sub 6)] (lCons (eVar 6) lNil) opApp))
  sNext)
  (sRet true .own (ePrim pSortedI (lCons (eVar 5) lNil)))))))))))
def f_law_numbers : FD := callD d_law_numbers 8 [0]
/-! is_spread -/
def d_is_spread_1 : EF := (ePrim pIx (lCons (ePrim pIx (lCons (ePrim pIx (lCons (eVar 0) (lCons (eC (.int 1)) lNil))) (lCons (eVar 4) lNil))) (lCons (eC (.int 1)) lNil)))
def d_is_spread : SF := (sSeq (sSet 3 .own (ePrim pSortedI (lCons (eLc (.sub 2) (iSeq (eVar 2)) (fun b => (gSet (.pr b) 4)) tYesF d_is_spread_1 [4] []) lNil)))
  (sRet true .own (eAnd (ePrim (pEq false) (lCons (eVar 3) (lCons (eCall f_others_than [] (lCons (eVar 0) (lCons (eVar 1) lNil))) lNil))) (eCall f_is_wood [] (lCons (eVar 0) (lCons (eVar 2) lNil))))))
def f_is_spread : FD := callD d_is_spread 5 []
/-! _law_web -/
def d_law_web_1 : EF := (eCall f_law_pair [0] (lCons (eVar 0) (lCons (eVar 3) lNil)))
def d_law_web_2 : EF := (eCall f_law_pair [0] (lCons (eVar 0) (lCons (eVar 3) lNil)))
def d_law_web_3 : EF := (eCall f_law_pair [0] (lCons (eVar 0) (lCons (eVar 3) lNil)))
def d_law_web : SF := (sSeq (sSet 1 .own (eCall f_law_take [0] (lCons (eVar 0) (lCons (eC (.int 4)) lNil))))
  (sSeq (sSet 2 .own (ePrim (pEq false) (lCons (eCall f_law_take [0] (lCons (eVar 0) (lCons (eC (.int 2)) lNil))) (lCons (eC (.int 1)) lNil))))
  (sSeq (sSet 3 .own (ePrim pAdd (lCons (eC (.int 1)) (lCons (eCall f_law_take [0] (lRef 0 (lCons (ePrim pIx (lCons (ePrim pLst (lCons (eC (.int 6)) (lCons (eC (.int 6)) (lCons (eC (.int 6)) (lCons (eC (.int 9)) lNil))))) (lCons (eCall f_law_take [0] (lCons (eVar 0) (lCons (eC (.int 4)) lNil))) lNil))) lNil))) lNil))))
  (sSeq (sSet 4 .own (ePrim pLst lNil))
  (sSeq (sIf (tfAnd (toT (ePrim (pEq false) (lCons (eVar 1) (lCons (eC (.int 0)) lNil)))) (toT (ePrim pGt (lCons (eVar 3) (lCons (eC (.int 1)) lNil))))) (sSet 4 .own (eLc .own (iRg (rg1 (eCall f_law_take [0] (lRef 0 (lCons (ePrim pIx (lCons (ePrim pLst (lCons (eC (.int 13)) (lCons (eC (.int 13)) (lCons (eC (.int 25)) (lCons (eC (.int 61)) lNil))))) (lCons (eCall f_law_take [0] (lCons (eVar 0) (lCons (eC (.int 4)) lNil))) lNil))) lNil))))) (fun b => (gSet (.pr b) 5)) tYesF d_law_web_1 [5] [0]))
  sNext)
  (sSeq (sIf (tfAnd (toT (ePrim (pEq false) (lCons (eVar 1) (lCons (eC (.int 1)) lNil)))) (toT (ePrim pGt (lCons (eVar 3) (lCons (eC (.int 1)) lNil))))) (sSeq (sSet 4 .own (eCall f_law_tied [0] (lRef 0 (lCons (eC (.int 0)) (lCons (eVar 3) (lCons (ePrim pAdd (lCons (eC (.int 1)) (lCons (eCall f_law_take [0] (lCons (eVar 0) (lCons (eC (.int 3)) lNil))) lNil))) lNil))))))
  (sSeq (sIf (toT (ePrim (pEq false) (lCons (eCall f_law_take [0] (lCons (eVar 0) (lCons (eC (.int 3)) lNil))) (lCons (eC (.int 0)) lNil)))) (sDrop (eMut "list" 4 (pName 4) [.own] (lCons (eCall f_law_take [0] (lCons (eVar 0) (lCons (ePrim pLen (lCons (eVar 4) lNil)) lNil))) lNil) opPop))
  sNext)
  (sSet 4 (.top [4]) (ePrim pAdd (lCons (eVar 4) (lCons (eLc .own (iRg (rg1 (eCall f_law_take [0] (lCons (eVar 0) (lCons (eC (.int 4)) lNil))))) (fun b => (gSet (.pr b) 5)) tYesF d_law_web_2 [5] [0]) lNil))))))
  sNext)
  (sSeq (sIf (tfAnd (toT (ePrim (pEq false) (lCons (eVar 1) (lCons (eC (.int 2)) lNil)))) (toT (ePrim pGt (lCons (eVar 3) (lCons (eC (.int 1)) lNil))))) (sSet 4 .own (eCall f_law_clumps [0] (lCons (eVar 0) (lCons (eVar 3) lNil))))
  sNext)
  (sSeq (sIf (toT (ePrim (pEq false) (lCons (eVar 1) (lCons (eC (.int 3)) lNil)))) (sSeq (sSet 3 .own (ePrim pAdd (lCons (eC (.int 2)) (lCons (eCall f_law_take [0] (lCons (eVar 0) (lCons (eC (.int 2)) lNil))) lNil))))
  (sSet 4 .own (eLc .own (iRg (rg1 (eCall f_law_take [0] (lCons (eVar 0) (lCons (eC (.int 61)) lNil))))) (fun b => (gSet (.pr b) 5)) tYesF d_law_web_3 [5] [0])))
  sNext)
  (sSeq (sIf (toTr (eVar 2)) (sSet 4 .own (eCall f_law_turned [0] (lCons (eVar 0) (lCons (eVar 3) (lCons (eVar 4) lNil)))))
  sNext)
  (sRet true .own (ePrim pTup (lCons (eOwn (.sub 3) (eVar 3)) (lCons (eOwn (.top [4]) (eSlice (eVar 4) oNone (oSome (eC (.int 60))))) lNil)))))))))))))
def f_law_web : FD := callD d_law_web 6 [0]
/-! _law_right -/
def d_law_right : SF := (sSeq (sSet 4 (.top [2]) (ePrim pList (lCons (eVar 2) lNil)))
  (sSeq (sIf (toTr (eVar 3)) (sSet 4 (.top [2]) (ePrim pTuple (lCons (eVar 2) lNil)))
  sNext)
  (sSeq (sSet 5 .own (eCall f_is_spread [] (lCons (eVar 0) (lCons (eVar 1) (lCons (eVar 4) lNil)))))
  (sRet true .own (eAnd (ePrim (pIsi "bool") (lCons (eVar 5) lNil)) (eAnd (ePrim (pEq false) (lCons (eVar 5) (lCons (eCall f_law_is_spread [] (lCons (eVar 0) (lCons (eVar 1) (lCons (eVar 2) lNil)))) lNil))) (ePrim (pEq false) (lCons (ePrim pList (lCons (eVar 4) lNil)) (lCons (eVar 2) lNil)))))))))
def f_law_right : FD := callD d_law_right 6 []
/-! law -/
def d_law_1 : SF := (sSeq (sSet 11 .own (eCall f_law_numbers [3] (lCons (eVar 3) (lCons (eVar 7) (lCons (eVar 8) lNil)))))
  (sSeq (sIf (tfOr (tfNot (toTr (eCall f_law_right [] (lCons (eVar 7) (lCons (eVar 8) (lCons (eVar 11) (lCons (eVar 4) lNil))))))) (tfNot (toTr (eCall f_law_right [] (lCons (eVar 7) (lCons (eVar 9) (lCons (eVar 11) (lCons (eNot (eVar 4)) lNil)))))))) (sRet true .own (eC (.bl false)))
  sNext)
  (sIf (tfNot (toTr (eCall f_law_right [] (lCons (ePrim pIx (lCons (eVar 1) (lCons (eC (.int 0)) lNil))) (lCons (ePrim pIx (lCons (eVar 1) (lCons (eC (.int 1)) lNil))) (lCons (ePrim pIx (lCons (eVar 1) (lCons (eC (.int 2)) lNil))) (lCons (eVar 4) lNil))))))) (sRet true .own (eC (.bl false)))
  sNext)))
def d_law_2 : SF := (sSeq (sSet 3 .own (eCall f_law_pot [] (lCons (eVar 2) lNil)))
  (sSeq (sSet 4 .own (ePrim (pEq false) (lCons (eCall f_law_take [3] (lCons (eVar 3) (lCons (eC (.int 2)) lNil))) (lCons (eC (.int 1)) lNil))))
  (sSeq (sAsg (eCall f_law_web [3] (lCons (eVar 3) lNil)) (gSeqE 2 (gsCons (gSet (.ex .own) 5) (gsCons (gSet (.ex .own) 6) gsNil))))
  (sSeq (sSet 7 (.top [5, 6]) (ePrim pTup (lCons (eVar 5) (lCons (ePrim pTuple (lCons (eVar 6) lNil)) lNil))))
  (sSeq (sSet 8 .own (eCall f_law_take [3] (lCons (eVar 3) (lCons (eVar 5) lNil))))
  (sSeq (sSet 9 .own (eCall f_law_take [3] (lCons (eVar 3) (lCons (eVar 5) lNil))))
  (sSeq (sFor .own (iRg (rg1 (eC (.int 3)))) (fun b => (gSet (.pr b) 10)) d_law_1)
  (sSet 1 (.top [7, 8, 11]) (ePrim pTup (lCons (eVar 7) (lCons (eVar 8) (lCons (eVar 11) lNil))))))))))))
def d_law : SF := (sSeq (sSet 1 .own (ePrim pTup (lCons (ePrim pTup (lCons (eC (.int 1)) (lCons (ePrim pTup lNil) lNil))) (lCons (eC (.int 0)) (lCons (ePrim pLst lNil) lNil)))))
  (sSeq (sFor (.top [0]) (iSeq (ePrim pAdd (lCons (ePrim pLst (lCons (eCall f_law_at [] (lCons (eVar 0) (lCons (eC (.int 0)) lNil))) lNil)) (lCons (eSlice (eVar 0) (oSome (eC (.int 1))) (oSome (eC (.int 8)))) lNil)))) (fun b => (gSet (.pr b) 2)) d_law_2)
  (sRet true .own (eC (.bl true)))))
def f_law : FD := callD d_law 12 []
end
end VL
set_option maxHeartbeats 8000000
namespace VL
open PySem PySem.Spec PyProof.Rows L2
open GxR (TabB TabG Tabbed)
def topS (i : Nat) : Stmt := PySem.Challenge.pw_treesapart_k71_spreads_judged.main.body.getD i (.Pass ⟨0, 0, 0, 0⟩)
abbrev s_others_than : Stmt := topS 1
abbrev s_way_by : Stmt := topS 3
abbrev s_ring_in : Stmt := topS 4
abbrev s_is_wood : Stmt := topS 5
abbrev s_is_spread : Stmt := topS 7
abbrev s_law_at : Stmt := topS 9
abbrev s_law_pot : Stmt := topS 10
abbrev s_law_take : Stmt := topS 11
abbrev s_law_pair : Stmt := topS 13
abbrev s_law_tied : Stmt := topS 14
abbrev s_law_clumps : Stmt := topS 15
abbrev s_law_turned : Stmt := topS 16
abbrev s_law_web : Stmt := topS 17
abbrev s_law_is_spread : Stmt := topS 18
abbrev s_law_grown : Stmt := topS 19
abbrev s_law_numbers : Stmt := topS 20
abbrev s_law_right : Stmt := topS 21
abbrev s_law : Stmt := topS 22
/-- what stands behind the top -/
structure Fx (G : Gb) (mg : Str → Option Value) where
  a_others_than : Addr
  fd_others_than : FuncData
  F_others_than : Fun G.K "others_than" "others_than" s_others_than a_others_than fd_others_than
  b_others_than : Binds G.K fd_others_than ["lane_web", "root"] []
  g_others_than : mg "others_than" = some (.ref a_others_than)
  a_way_by : Addr
  fd_way_by : FuncData
  F_way_by : Fun G.K "way_by" "way_by" s_way_by a_way_by fd_way_by
  b_way_by : Binds G.K fd_way_by ["web", "numbers", "a", "b"] []
  g_way_by : mg "way_by" = some (.ref a_way_by)
  a_ring_in : Addr
  fd_ring_in : FuncData
  F_ring_in : Fun G.K "ring_in" "ring_in" s_ring_in a_ring_in fd_ring_in
  b_ring_in : Binds G.K fd_ring_in ["web", "numbers"] []
  g_ring_in : mg "ring_in" = some (.ref a_ring_in)
  a_is_wood : Addr
  fd_is_wood : FuncData
  F_is_wood : Fun G.K "is_wood" "is_wood" s_is_wood a_is_wood fd_is_wood
  b_is_wood : Binds G.K fd_is_wood ["web", "numbers"] []
  g_is_wood : mg "is_wood" = some (.ref a_is_wood)
  a_is_spread : Addr
  fd_is_spread : FuncData
  F_is_spread : Fun G.K "is_spread" "is_spread" s_is_spread a_is_spread fd_is_spread
  b_is_spread : Binds G.K fd_is_spread ["lane_web", "root", "numbers"] []
  g_is_spread : mg "is_spread" = some (.ref a_is_spread)
  a_law_at : Addr
  fd_law_at : FuncData
  F_law_at : Fun G.K "_law_at" "_law_at" s_law_at a_law_at fd_law_at
  b_law_at : Binds G.K fd_law_at ["_law_script", "_law_k"] []
  g_law_at : mg "_law_at" = some (.ref a_law_at)
  a_law_pot : Addr
  fd_law_pot : FuncData
  F_law_pot : Fun G.K "_law_pot" "_law_pot" s_law_pot a_law_pot fd_law_pot
  b_law_pot : Binds G.K fd_law_pot ["_law_cell"] []
  g_law_pot : mg "_law_pot" = some (.ref a_law_pot)
  a_law_take : Addr
  fd_law_take : FuncData
  F_law_take : Fun G.K "_law_take" "_law_take" s_law_take a_law_take fd_law_take
  b_law_take : Binds G.K fd_law_take ["_law_pot_here", "_law_many"] []
  g_law_take : mg "_law_take" = some (.ref a_law_take)
  a_law_pair : Addr
  fd_law_pair : FuncData
  F_law_pair : Fun G.K "_law_pair" "_law_pair" s_law_pair a_law_pair fd_law_pair
  b_law_pair : Binds G.K fd_law_pair ["_law_pot_here", "_law_places"] []
  g_law_pair : mg "_law_pair" = some (.ref a_law_pair)
  a_law_tied : Addr
  fd_law_tied : FuncData
  F_law_tied : Fun G.K "_law_tied" "_law_tied" s_law_tied a_law_tied fd_law_tied
  b_law_tied : Binds G.K fd_law_tied ["_law_pot_here", "_law_low", "_law_high", "_law_rounds"] []
  g_law_tied : mg "_law_tied" = some (.ref a_law_tied)
  a_law_clumps : Addr
  fd_law_clumps : FuncData
  F_law_clumps : Fun G.K "_law_clumps" "_law_clumps" s_law_clumps a_law_clumps fd_law_clumps
  b_law_clumps : Binds G.K fd_law_clumps ["_law_pot_here", "_law_places"] []
  g_law_clumps : mg "_law_clumps" = some (.ref a_law_clumps)
  a_law_turned : Addr
  fd_law_turned : FuncData
  F_law_turned : Fun G.K "_law_turned" "_law_turned" s_law_turned a_law_turned fd_law_turned
  b_law_turned : Binds G.K fd_law_turned ["_law_pot_here", "_law_places", "_law_lanes"] []
  g_law_turned : mg "_law_turned" = some (.ref a_law_turned)
  a_law_web : Addr
  fd_law_web : FuncData
  F_law_web : Fun G.K "_law_web" "_law_web" s_law_web a_law_web fd_law_web
  b_law_web : Binds G.K fd_law_web ["_law_pot_here"] []
  g_law_web : mg "_law_web" = some (.ref a_law_web)
  a_law_is_spread : Addr
  fd_law_is_spread : FuncData
  F_law_is_spread : Fun G.K "_law_is_spread" "_law_is_spread" s_law_is_spread a_law_is_spread fd_law_is_spread
  b_law_is_spread : Binds G.K fd_law_is_spread ["_law_web_here", "_law_root", "_law_numbers_here"] []
  g_law_is_spread : mg "_law_is_spread" = some (.ref a_law_is_spread)
  a_law_grown : Addr
  fd_law_grown : FuncData
  F_law_grown : Fun G.K "_law_grown" "_law_grown" s_law_grown a_law_grown fd_law_grown
  b_law_grown : Binds G.K fd_law_grown ["_law_pot_here", "_law_web_here", "_law_root"] []
  g_law_grown : mg "_law_grown" = some (.ref a_law_grown)
  a_law_numbers : Addr
  fd_law_numbers : FuncData
  F_law_numbers : Fun G.K "_law_numbers" "_law_numbers" s_law_numbers a_law_numbers fd_law_numbers
  b_law_numbers : Binds G.K fd_law_numbers ["_law_pot_here", "_law_web_here", "_law_root"] []
  g_law_numbers : mg "_law_numbers" = some (.ref a_law_numbers)
  a_law_right : Addr
  fd_law_right : FuncData
  F_law_right : Fun G.K "_law_right" "_law_right" s_law_right a_law_right fd_law_right
  b_law_right : Binds G.K fd_law_right ["_law_web_here", "_law_root", "_law_numbers_here", "_law_is_tuple"] []
  g_law_right : mg "_law_right" = some (.ref a_law_right)
  a_law : Addr
  fd_law : FuncData
  F_law : Fun G.K "law" "law" s_law a_law fd_law
  b_law : Binds G.K fd_law ["_law_script"] []
  g_law : mg "law" = some (.ref a_law)
  m_abs : mg "abs" = none
  m_bool : mg "bool" = none
  m_divmod : mg "divmod" = none
  m_int : mg "int" = none
  m_isinstance : mg "isinstance" = none
  m_len : mg "len" = none
  m_list : mg "list" = none
  m_max : mg "max" = none
  m_range : mg "range" = none
  m_sorted : mg "sorted" = none
  m_sum : mg "sum" = none
  m_tuple : mg "tuple" = none
noncomputable section
variable {P : Program} {w : World} {G : Gb} {mg : Str → Option Value} {b0 : Heap}
/-! others_than -/
abbrev n_others_than : List Str := ["lane_web", "root", "place"]
theorem sc_others_than : FnScope n_others_than ["lane_web", "root"] (defScope s_others_than) := ⟨rfl, rfl, rfl, by decide +kernel, rfl, by decide +kernel, by decide +kernel⟩
theorem ok_others_than (Q : Fx G mg) : TA.FnG P w G.K mg b0 CX0 1 Q.a_others_than Q.fd_others_than ["lane_web", "root"] (spV G [] true 2 f_others_than) :=
  fnV (S := d_others_than) (N := n_others_than) Q.F_others_than sc_others_than (by decide) (by decide) fun cd B ou s H E x hg hr =>
    (vss_one (vs_ret (ve_lc x sc_others_than.nd (own := [("place", 2)]) (W := [2]) (M := []) (g := fun b => (gSet (.pr b) 2)) (t := d_others_than_2) (f := d_others_than_1) (vi_range1 (by rfl) Q.m_range (ve_sub x (ve_var (pv 0)) ve_int)) (blkOk_by (N := n_others_than) (sc := (defScope s_others_than)) (by decide +kernel)) (fun b _ _ _ _ _ => (vg_name (i := 2) sc_others_than.nd rfl (by first | exact .inl rfl | exact .inr rfl))) (fun _ _ _ _ _ => vts_mono (vts_one (vt_cmp (op_neAll x.blk) (prim_neA x.blk.K) (ve_var (pv 2)) (ve_var (pv 1)) (nomark _)))) (fun _ _ _ _ _ => ve_mono (ve_var (pv 2))))))
/-! way_by -/
abbrev n_way_by : List Str := ["web", "numbers", "a", "b", "ways", "reached", "place", "number", "ends", "end"]
theorem sc_way_by : FnScope n_way_by ["web", "numbers", "a", "b"] (defScope s_way_by) := ⟨rfl, rfl, rfl, by decide +kernel, rfl, by decide +kernel, by decide +kernel⟩
theorem ok_way_by (Q : Fx G mg) : TA.FnG P w G.K mg b0 CX0 1 Q.a_way_by Q.fd_way_by ["web", "numbers", "a", "b"] (spV G [] true 4 f_way_by) :=
  fnV (S := d_way_by) (N := n_way_by) Q.F_way_by sc_way_by (by decide) (by decide) fun cd B ou s H E x hg hr =>
    (vss_cons (vs_set (i := 4) sc_way_by.nd rfl (by first | exact .inl rfl | exact .inr rfl) (ve_dict1 (ve_var (pv 2)) (ve_lst vl_nil)))
    (vss_cons (vs_set (i := 5) sc_way_by.nd rfl (by first | exact .inl rfl | exact .inr rfl) (ve_lst (vl_cons (ve_var (pv 2)) vl_nil)))
    (vss_cons (vs_while PassesOwn.never (vt_w (vw_and (vt_truth x (ve_var (pv 5))) (vw_and1 (vt_cmp (op_notInAll x) (prim_notIn x.K) (ve_var (pv 3)) (ve_var (pv 4)) (by with_unfolding_all rfl))))) (vss_cons (vs_set (i := 6) sc_way_by.nd rfl (by first | exact .inl rfl | exact .inr rfl) (ve_mut0 x PySem.F.plainAttrs_list PySem.F.slot_list_pop PySem.F.type_list_pop mt_popAll mut_pop (vp_name (pv 5))))
    (vss_one (vs_for (g := fun b => (gSet (.pr b) 7)) x PassesOwn.never (vi_seq x (ve_var (pv 1))) (fun b => (vg_name (i := 7) sc_way_by.nd rfl (by first | exact .inl rfl | exact .inr rfl))) (vss_cons (vs_set (i := 8) sc_way_by.nd rfl (by first | exact .inl rfl | exact .inr rfl) (ve_sub x (ve_sub x (ve_var (pv 0)) ve_int) (ve_var (pv 7))))
    (vss_one (vs_if (vt_cmp (op_inAll x) (prim_in x.K) (ve_var (pv 6)) (ve_var (pv 8)) (by with_unfolding_all rfl)) (vss_cons (vs_set (i := 9) sc_way_by.nd rfl (by first | exact .inl rfl | exact .inr rfl) (ve_op op_sub prim_sub (ve_callB (call_sumAll x) (prim_sumA x.K) (by rfl) Q.m_sum (by decide +kernel) (vl_cons (ve_var (pv 8)) vl_nil)) (ve_var (pv 6))))
    (vss_one (vs_if (vt_cmp (op_notInAll x) (prim_notIn x.K) (ve_var (pv 9)) (ve_var (pv 4)) (by with_unfolding_all rfl)) (vss_cons (vs_setItem x (ve_opV op_addAll prim_add (ve_sub x (ve_var (pv 4)) (ve_var (pv 6))) (ve_lst (vl_cons (ve_var (pv 7)) vl_nil))) (vp_name (pv 4)) (ve_var (pv 9)))
    (vss_one (vs_expr (ve_mut x PySem.F.plainAttrs_list PySem.F.slot_list_append PySem.F.type_list_append mt_append mut_append (vp_name (pv 5)) (vl_cons (ve_var (pv 9)) vl_nil)))))
    vss_nil)))
    vss_nil)))))))
    (vss_one (vs_ret (ve_get x (ve_var (pv 4)) (ve_var (pv 3)) ⟨by rfl, by rfl, by rfl, by rfl⟩))))))
/-! _law_at -/
abbrev n_law_at : List Str := ["_law_script", "_law_k"]
theorem sc_law_at : FnScope n_law_at ["_law_script", "_law_k"] (defScope s_law_at) := ⟨rfl, rfl, rfl, by decide +kernel, rfl, by decide +kernel, by decide +kernel⟩
theorem ok_law_at (Q : Fx G mg) : TA.FnG P w G.K mg b0 CX0 1 Q.a_law_at Q.fd_law_at ["_law_script", "_law_k"] (spV G [] true 2 f_law_at) :=
  fnV (S := d_law_at) (N := n_law_at) Q.F_law_at sc_law_at (by decide) (by decide) fun cd B ou s H E x hg hr =>
    (vss_cons (vs_if (vt_cmp op_lt prim_lt (ve_var (pv 1)) (ve_callB call_lenAll (prim_len x.K) (by rfl) Q.m_len (by decide +kernel) (vl_cons (ve_var (pv 0)) vl_nil)) (nomark _)) (vss_one (vs_ret (ve_sub x (ve_var (pv 0)) (ve_var (pv 1)))))
    vss_nil)
    (vss_one (vs_ret ve_int)))
/-! _law_pot -/
abbrev n_law_pot : List Str := ["_law_cell"]
theorem sc_law_pot : FnScope n_law_pot ["_law_cell"] (defScope s_law_pot) := ⟨rfl, rfl, rfl, by decide +kernel, rfl, by decide +kernel, by decide +kernel⟩
theorem ok_law_pot (Q : Fx G mg) : TA.FnG P w G.K mg b0 CX0 1 Q.a_law_pot Q.fd_law_pot ["_law_cell"] (spV G [] true 1 f_law_pot) :=
  fnV (S := d_law_pot) (N := n_law_pot) Q.F_law_pot sc_law_pot (by decide) (by decide) fun cd B ou s H E x hg hr =>
    (vss_one (vs_ret (ve_lst (vl_cons (ve_callB (call_maxAll x) (prim_max x.K) (by rfl) Q.m_max (by decide +kernel) (vl_cons ve_int (vl_cons (ve_op op_sub prim_sub (ve_callB call_abs prim_abs (by rfl) Q.m_abs (by decide +kernel) (vl_cons (ve_var (pv 0)) vl_nil)) (ve_op op_pow prim_pow ve_int ve_int)) vl_nil))) (vl_cons (ve_opV op_addAll prim_add (ve_op op_mod prim_mod (ve_callB call_abs prim_abs (by rfl) Q.m_abs (by decide +kernel) (vl_cons (ve_var (pv 0)) vl_nil)) ve_int) ve_int) vl_nil)))))
/-! _law_take -/
abbrev n_law_take : List Str := ["_law_pot_here", "_law_many", "_law_digit"]
theorem sc_law_take : FnScope n_law_take ["_law_pot_here", "_law_many"] (defScope s_law_take) := ⟨rfl, rfl, rfl, by decide +kernel, rfl, by decide +kernel, by decide +kernel⟩
theorem ok_law_take (Q : Fx G mg) : TA.FnG P w G.K mg b0 CX0 1 Q.a_law_take Q.fd_law_take ["_law_pot_here", "_law_many"] (spV G [0] true 2 f_law_take) :=
  fnV (S := d_law_take) (N := n_law_take) Q.F_law_take sc_law_take (by decide) (by decide) fun cd B ou s H E x hg hr =>
    (vss_cons (vs_if (vt_cmp op_gt prim_gt (ve_sub x (ve_var (pv 0)) ve_int) ve_int (nomark _)) (vss_cons (vs_pairSet (j := 2) x (ve_callB call_divmod prim_divmod (by rfl) Q.m_divmod (by decide +kernel) (vl_cons (ve_sub x (ve_var (pv 0)) ve_int) (vl_cons (ve_var (pv 1)) vl_nil))) (vp_name (pv 0)) ve_int sc_law_take.nd rfl (by first | exact .inl rfl | exact .inr rfl))
    (vss_one (vs_ret (ve_var (pv 2)))))
    vss_nil)
    (vss_cons (vs_setItem x (ve_op op_mod prim_mod (ve_opV op_addAll prim_add (ve_op op_mulAll prim_mul (ve_sub x (ve_var (pv 0)) ve_int) ve_int) ve_int) ve_int) (vp_name (pv 0)) ve_int)
    (vss_one (vs_ret (ve_op op_mod prim_mod (ve_op op_fdiv prim_fdiv (ve_op op_mod prim_mod (ve_op op_mulAll prim_mul (ve_sub x (ve_var (pv 0)) ve_int) (ve_sub x (ve_var (pv 0)) ve_int)) ve_int) ve_int) (ve_var (pv 1)))))))
/-! _law_is_spread -/
abbrev n_law_is_spread : List Str := ["_law_web_here", "_law_root", "_law_numbers_here", "_law_found", "_law_turn", "_law_number", "_law_a", "_law_b", "_law_goals", "_law_place"]
theorem sc_law_is_spread : FnScope n_law_is_spread ["_law_web_here", "_law_root", "_law_numbers_here"] (defScope s_law_is_spread) := ⟨rfl, rfl, rfl, by decide +kernel, rfl, by decide +kernel, by decide +kernel⟩
theorem ok_law_is_spread (Q : Fx G mg) : TA.FnG P w G.K mg b0 CX0 1 Q.a_law_is_spread Q.fd_law_is_spread ["_law_web_here", "_law_root", "_law_numbers_here"] (spV G [] true 3 f_law_is_spread) :=
  fnV (S := d_law_is_spread) (N := n_law_is_spread) Q.F_law_is_spread sc_law_is_spread (by decide) (by decide) fun cd B ou s H E x hg hr =>
    (vss_cons (vs_set (i := 3) sc_law_is_spread.nd rfl (by first | exact .inl rfl | exact .inr rfl) (ve_lst (vl_cons (ve_var (pv 1)) vl_nil)))
    (vss_cons (vs_for (g := fun b => (gSet (.pr b) 4)) x PassesOwn.never (vi_range1 (by rfl) Q.m_range (ve_sub x (ve_var (pv 0)) ve_int)) (fun b => (vg_name (i := 4) sc_law_is_spread.nd rfl (by first | exact .inl rfl | exact .inr rfl))) (vss_one (vs_for (g := fun b => (gSet (.pr b) 5)) x PassesOwn.never (vi_seq x (ve_var (pv 2))) (fun b => (vg_name (i := 5) sc_law_is_spread.nd rfl (by first | exact .inl rfl | exact .inr rfl))) (vss_cons (vs_unp x (ve_sub x (ve_sub x (ve_var (pv 0)) ve_int) (ve_var (pv 5))) (vgs_cons (vg_name (i := 6) sc_law_is_spread.nd rfl (by first | exact .inl rfl | exact .inr rfl)) (vgs_cons (vg_name (i := 7) sc_law_is_spread.nd rfl (by first | exact .inl rfl | exact .inr rfl)) vgs_nil)))
    (vss_one (vs_if (vt_w (vw_and (vt_cmp (op_inAll x) (prim_in x.K) (ve_var (pv 6)) (ve_var (pv 3)) (by with_unfolding_all rfl)) (vw_and1 (vt_cmp (op_notInAll x) (prim_notIn x.K) (ve_var (pv 7)) (ve_var (pv 3)) (by with_unfolding_all rfl))))) (vss_one (vs_expr (ve_mut x PySem.F.plainAttrs_list PySem.F.slot_list_append PySem.F.type_list_append mt_append mut_append (vp_name (pv 3)) (vl_cons (ve_var (pv 7)) vl_nil))))
    vss_nil))))))
    (vss_cons (vs_setLc (i := 8) x sc_law_is_spread.nd rfl rfl (sw_true rfl rfl rfl (by decide +kernel)) (own := [("_law_number", 5)]) (W := [5]) (M := []) (g := fun b => (gSet (.pr b) 5)) (t := tYesF) (f := d_law_is_spread_3) (vi_seq x (ve_var (pv 2))) (blkOk_by (N := n_law_is_spread) (sc := (defScope s_law_is_spread)) (by decide +kernel)) (fun b _ _ _ _ _ => (vg_name (i := 5) sc_law_is_spread.nd rfl (by first | exact .inl rfl | exact .inr rfl))) (fun _ _ _ _ _ => vts_mono vts_nil) (fun _ _ _ _ _ => ve_mono (ve_sub x.blk (ve_sub x.blk (ve_sub x.blk (ve_var (pv 0)) ve_int) (ve_var (pv 5))) ve_int)))
    (vss_one (vs_ret (ve_and x (ve_cmp (op_eqAll x) (prim_eqA x.K) (ve_callB call_lenAll (prim_len x.K) (by rfl) Q.m_len (by decide +kernel) (vl_cons (ve_var (pv 3)) vl_nil)) (ve_sub x (ve_var (pv 0)) ve_int) (nomark _)) (ve_one (ve_cmp (op_eqAll x) (prim_eqA x.K) (ve_callB cr_sorted (prim_sortedI x.K) (by rfl) Q.m_sorted (by decide +kernel) (vl_cons (ve_var (pv 8)) vl_nil)) (ve_lc x sc_law_is_spread.nd (own := [("_law_place", 9)]) (W := [9]) (M := []) (g := fun b => (gSet (.pr b) 9)) (t := d_law_is_spread_5) (f := d_law_is_spread_4) (vi_range1 (by rfl) Q.m_range (ve_sub x (ve_var (pv 0)) ve_int)) (blkOk_by (N := n_law_is_spread) (sc := (defScope s_law_is_spread)) (by decide +kernel)) (fun b _ _ _ _ _ => (vg_name (i := 9) sc_law_is_spread.nd rfl (by first | exact .inl rfl | exact .inr rfl))) (fun _ _ _ _ _ => vts_mono (vts_one (vt_cmp (op_neAll x.blk) (prim_neA x.blk.K) (ve_var (pv 9)) (ve_var (pv 1)) (nomark _)))) (fun _ _ _ _ _ => ve_mono (ve_var (pv 9)))) (nomark _)))))))))
/-! ring_in -/
abbrev n_ring_in : List Str := ["web", "numbers", "wood", "number", "a", "b", "way"]
theorem sc_ring_in : FnScope n_ring_in ["web", "numbers"] (defScope s_ring_in) := ⟨rfl, rfl, rfl, by decide +kernel, rfl, by decide +kernel, by decide +kernel⟩
theorem ok_ring_in (Q : Fx G mg) : TA.FnG P w G.K mg b0 CX0 2 Q.a_ring_in Q.fd_ring_in ["web", "numbers"] (spV G [] true 2 f_ring_in) :=
  fnV (S := d_ring_in) (N := n_ring_in) Q.F_ring_in sc_ring_in (by decide) (by decide) fun cd B ou s H E x hg hr =>
    (vss_cons (vs_set (i := 2) sc_ring_in.nd rfl (by first | exact .inl rfl | exact .inr rfl) (ve_lst vl_nil))
    (vss_cons (vs_for (g := fun b => (gSet (.pr b) 3)) x PassesOwn.never (vi_seq x (ve_var (pv 1))) (fun b => (vg_name (i := 3) sc_ring_in.nd rfl (by first | exact .inl rfl | exact .inr rfl))) (vss_cons (vs_unp x (ve_sub x (ve_sub x (ve_var (pv 0)) ve_int) (ve_var (pv 3))) (vgs_cons (vg_name (i := 4) sc_ring_in.nd rfl (by first | exact .inl rfl | exact .inr rfl)) (vgs_cons (vg_name (i := 5) sc_ring_in.nd rfl (by first | exact .inl rfl | exact .inr rfl)) vgs_nil)))
    (vss_cons (vs_set (i := 6) sc_ring_in.nd rfl (by first | exact .inl rfl | exact .inr rfl) (ve_call (ro := true) (k := 1) (ok_way_by Q) hg (hr.mono (by decide)) (by rfl) Q.g_way_by Q.F_way_by.kp Q.b_way_by pass0 [] (vl_cons (ve_var (pv 0)) (vl_cons (ve_var (pv 2)) (vl_cons (ve_var (pv 5)) (vl_cons (ve_var (pv 4)) vl_nil))))))
    (vss_cons (vs_if (vt_cmp op_notN prim_notN (ve_var (pv 6)) ve_non (nomark _)) (vss_one (vs_ret (ve_opV op_addAll prim_add (ve_lst (vl_cons (ve_var (pv 3)) vl_nil)) (ve_var (pv 6)))))
    vss_nil)
    (vss_one (vs_expr (ve_mut x PySem.F.plainAttrs_list PySem.F.slot_list_append PySem.F.type_list_append mt_append mut_append (vp_name (pv 2)) (vl_cons (ve_var (pv 3)) vl_nil))))))))
    (vss_one (vs_ret ve_non))))
/-! _law_pair -/
abbrev n_law_pair : List Str := ["_law_pot_here", "_law_places", "_law_a", "_law_b"]
theorem sc_law_pair : FnScope n_law_pair ["_law_pot_here", "_law_places"] (defScope s_law_pair) := ⟨rfl, rfl, rfl, by decide +kernel, rfl, by decide +kernel, by decide +kernel⟩
theorem ok_law_pair (Q : Fx G mg) : TA.FnG P w G.K mg b0 CX0 2 Q.a_law_pair Q.fd_law_pair ["_law_pot_here", "_law_places"] (spV G [0] true 2 f_law_pair) :=
  fnV (S := d_law_pair) (N := n_law_pair) Q.F_law_pair sc_law_pair (by decide) (by decide) fun cd B ou s H E x hg hr =>
    (vss_cons (vs_set (i := 2) sc_law_pair.nd rfl (by first | exact .inl rfl | exact .inr rfl) (ve_call (ro := true) (k := 1) (ok_law_take Q) hg (hr.mono (by decide)) (by rfl) Q.g_law_take Q.F_law_take.kp Q.b_law_take pass0 [0] (vl_cons (ve_ref (pv 0)) (vl_cons (ve_var (pv 1)) vl_nil))))
    (vss_cons (vs_set (i := 3) sc_law_pair.nd rfl (by first | exact .inl rfl | exact .inr rfl) (ve_call (ro := true) (k := 1) (ok_law_take Q) hg (hr.mono (by decide)) (by rfl) Q.g_law_take Q.F_law_take.kp Q.b_law_take pass0 [0] (vl_cons (ve_ref (pv 0)) (vl_cons (ve_op op_sub prim_sub (ve_var (pv 1)) ve_int) vl_nil))))
    (vss_one (vs_ret (ve_tup (vl_cons (ve_own (ve_var (pv 2))) (vl_cons (ve_own (ve_opV op_addAll prim_add (ve_var (pv 3)) (ve_callTy call_int1 prim_int (by rfl) Q.m_int (by decide +kernel) (vl_cons (ve_cmp op_ge prim_ge (ve_var (pv 3)) (ve_var (pv 2)) (nomark _)) vl_nil)))) vl_nil)))))))
/-! _law_tied -/
abbrev n_law_tied : List Str := ["_law_pot_here", "_law_low", "_law_high", "_law_rounds", "_law_lanes", "_law_turn", "_law_b"]
theorem sc_law_tied : FnScope n_law_tied ["_law_pot_here", "_law_low", "_law_high", "_law_rounds"] (defScope s_law_tied) := ⟨rfl, rfl, rfl, by decide +kernel, rfl, by decide +kernel, by decide +kernel⟩
theorem ok_law_tied (Q : Fx G mg) : TA.FnG P w G.K mg b0 CX0 2 Q.a_law_tied Q.fd_law_tied ["_law_pot_here", "_law_low", "_law_high", "_law_rounds"] (spV G [0] true 4 f_law_tied) :=
  fnV (S := d_law_tied) (N := n_law_tied) Q.F_law_tied sc_law_tied (by decide) (by decide) fun cd B ou s H E x hg hr =>
    (vss_cons (vs_set (i := 4) sc_law_tied.nd rfl (by first | exact .inl rfl | exact .inr rfl) (ve_lst vl_nil))
    (vss_cons (vs_for (g := fun b => (gSet (.pr b) 5)) x PassesOwn.never (vi_range1 (by rfl) Q.m_range (ve_var (pv 3))) (fun b => (vg_name (i := 5) sc_law_tied.nd rfl (by first | exact .inl rfl | exact .inr rfl))) (vss_one (vs_for (g := fun b => (gSet (.pr b) 6)) x PassesOwn.never (vi_range2 (by rfl) Q.m_range (ve_opV op_addAll prim_add (ve_var (pv 1)) ve_int) (ve_var (pv 2))) (fun b => (vg_name (i := 6) sc_law_tied.nd rfl (by first | exact .inl rfl | exact .inr rfl))) (vss_one (vs_expr (ve_mut x PySem.F.plainAttrs_list PySem.F.slot_list_append PySem.F.type_list_append mt_append mut_append (vp_name (pv 4)) (vl_cons (ve_tup (vl_cons (ve_opV op_addAll prim_add (ve_var (pv 1)) (ve_call (ro := true) (k := 1) (ok_law_take Q) hg (hr.mono (by decide)) (by rfl) Q.g_law_take Q.F_law_take.kp Q.b_law_take pass0 [0] (vl_cons (ve_ref (pv 0)) (vl_cons (ve_op op_sub prim_sub (ve_var (pv 6)) (ve_var (pv 1))) vl_nil)))) (vl_cons (ve_var (pv 6)) vl_nil))) vl_nil)))))))
    (vss_one (vs_ret (ve_var (pv 4))))))
/-! _law_turned -/
abbrev n_law_turned : List Str := ["_law_pot_here", "_law_places", "_law_lanes", "_law_names", "_law_place", "_law_a", "_law_b"]
theorem sc_law_turned : FnScope n_law_turned ["_law_pot_here", "_law_places", "_law_lanes"] (defScope s_law_turned) := ⟨rfl, rfl, rfl, by decide +kernel, rfl, by decide +kernel, by decide +kernel⟩
theorem ok_law_turned (Q : Fx G mg) : TA.FnG P w G.K mg b0 CX0 2 Q.a_law_turned Q.fd_law_turned ["_law_pot_here", "_law_places", "_law_lanes"] (spV G [0] true 3 f_law_turned) :=
  fnV (S := d_law_turned) (N := n_law_turned) Q.F_law_turned sc_law_turned (by decide) (by decide) fun cd B ou s H E x hg hr =>
    (vss_cons (vs_set (i := 3) sc_law_turned.nd rfl (by first | exact .inl rfl | exact .inr rfl) (ve_lst vl_nil))
    (vss_cons (vs_for (g := fun b => (gSet (.pr b) 4)) x PassesOwn.never (vi_range1 (by rfl) Q.m_range (ve_var (pv 1))) (fun b => (vg_name (i := 4) sc_law_turned.nd rfl (by first | exact .inl rfl | exact .inr rfl))) (vss_one (vs_expr (ve_mut x PySem.F.plainAttrs_list PySem.F.slot_list_insert PySem.F.type_list_insert mt_insert mut_insert (vp_name (pv 3)) (vl_cons (ve_call (ro := true) (k := 1) (ok_law_take Q) hg (hr.mono (by decide)) (by rfl) Q.g_law_take Q.F_law_take.kp Q.b_law_take pass0 [0] (vl_cons (ve_ref (pv 0)) (vl_cons (ve_opV op_addAll prim_add (ve_var (pv 4)) ve_int) vl_nil))) (vl_cons (ve_var (pv 4)) vl_nil))))))
    (vss_one (vs_ret (ve_lc x sc_law_turned.nd (own := [("_law_a", 5), ("_law_b", 6)]) (W := [5, 6]) (M := []) (g := fun b => (gTupE 2 (gsCons (gSet (.pr b) 5) (gsCons (gSet (.pr b) 6) gsNil)))) (t := tYesF) (f := d_law_turned_2) (vi_seq x (ve_var (pv 2))) (blkOk_by (N := n_law_turned) (sc := (defScope s_law_turned)) (by decide +kernel)) (fun b _ _ _ _ _ => (vg_tup x.blk (vgs_cons (vg_name (i := 5) sc_law_turned.nd rfl (by first | exact .inl rfl | exact .inr rfl)) (vgs_cons (vg_name (i := 6) sc_law_turned.nd rfl (by first | exact .inl rfl | exact .inr rfl)) vgs_nil)))) (fun _ _ _ _ _ => vts_mono vts_nil) (fun _ _ _ _ _ => ve_mono (ve_tup (vl_cons (ve_sub x.blk (ve_var (pv 3)) (ve_var (pv 5))) (vl_cons (ve_sub x.blk (ve_var (pv 3)) (ve_var (pv 6))) vl_nil)))))))))
/-! _law_grown -/
abbrev n_law_grown : List Str := ["_law_pot_here", "_law_web_here", "_law_root", "_law_come", "_law_taken", "_law_turn", "_law_some", "_law_number", "_law_a", "_law_b"]
theorem sc_law_grown : FnScope n_law_grown ["_law_pot_here", "_law_web_here", "_law_root"] (defScope s_law_grown) := ⟨rfl, rfl, rfl, by decide +kernel, rfl, by decide +kernel, by decide +kernel⟩
theorem ok_law_grown (Q : Fx G mg) : TA.FnG P w G.K mg b0 CX0 2 Q.a_law_grown Q.fd_law_grown ["_law_pot_here", "_law_web_here", "_law_root"] (spV G [0] true 3 f_law_grown) :=
  fnV (S := d_law_grown) (N := n_law_grown) Q.F_law_grown sc_law_grown (by decide) (by decide) fun cd B ou s H E x hg hr =>
    (vss_cons (vs_set (i := 3) sc_law_grown.nd rfl (by first | exact .inl rfl | exact .inr rfl) (ve_lst (vl_cons (ve_var (pv 2)) vl_nil)))
    (vss_cons (vs_set (i := 4) sc_law_grown.nd rfl (by first | exact .inl rfl | exact .inr rfl) (ve_lst vl_nil))
    (vss_cons (vs_for (g := fun b => (gSet (.pr b) 5)) x PassesOwn.never (vi_range1 (by rfl) Q.m_range (ve_sub x (ve_var (pv 1)) ve_int)) (fun b => (vg_name (i := 5) sc_law_grown.nd rfl (by first | exact .inl rfl | exact .inr rfl))) (vss_cons (vs_set (i := 6) sc_law_grown.nd rfl (by first | exact .inl rfl | exact .inr rfl) (ve_lst vl_nil))
    (vss_cons (vs_for (g := fun b => (gSet (.pr b) 7)) x PassesOwn.never (vi_range1 (by rfl) Q.m_range (ve_callB call_lenAll (prim_len x.K) (by rfl) Q.m_len (by decide +kernel) (vl_cons (ve_sub x (ve_var (pv 1)) ve_int) vl_nil))) (fun b => (vg_name (i := 7) sc_law_grown.nd rfl (by first | exact .inl rfl | exact .inr rfl))) (vss_cons (vs_unp x (ve_sub x (ve_sub x (ve_var (pv 1)) ve_int) (ve_var (pv 7))) (vgs_cons (vg_name (i := 8) sc_law_grown.nd rfl (by first | exact .inl rfl | exact .inr rfl)) (vgs_cons (vg_name (i := 9) sc_law_grown.nd rfl (by first | exact .inl rfl | exact .inr rfl)) vgs_nil)))
    (vss_one (vs_if (vt_w (vw_and (vt_cmp (op_inAll x) (prim_in x.K) (ve_var (pv 8)) (ve_var (pv 3)) (by with_unfolding_all rfl)) (vw_and1 (vt_cmp (op_notInAll x) (prim_notIn x.K) (ve_var (pv 9)) (ve_var (pv 3)) (by with_unfolding_all rfl))))) (vss_one (vs_expr (ve_mut x PySem.F.plainAttrs_list PySem.F.slot_list_append PySem.F.type_list_append mt_append mut_append (vp_name (pv 6)) (vl_cons (ve_var (pv 7)) vl_nil))))
    vss_nil))))
    (vss_one (vs_if (vt_cmp (op_neAll x) (prim_neA x.K) (ve_var (pv 6)) (ve_lst vl_nil) (nomark _)) (vss_cons (vs_set (i := 7) sc_law_grown.nd rfl (by first | exact .inl rfl | exact .inr rfl) (ve_sub x (ve_var (pv 6)) (ve_call (ro := true) (k := 1) (ok_law_take Q) hg (hr.mono (by decide)) (by rfl) Q.g_law_take Q.F_law_take.kp Q.b_law_take pass0 [0] (vl_cons (ve_ref (pv 0)) (vl_cons (ve_callB call_lenAll (prim_len x.K) (by rfl) Q.m_len (by decide +kernel) (vl_cons (ve_var (pv 6)) vl_nil)) vl_nil)))))
    (vss_cons (vs_expr (ve_mut x PySem.F.plainAttrs_list PySem.F.slot_list_append PySem.F.type_list_append mt_append mut_append (vp_name (pv 4)) (vl_cons (ve_var (pv 7)) vl_nil)))
    (vss_one (vs_expr (ve_mut x PySem.F.plainAttrs_list PySem.F.slot_list_append PySem.F.type_list_append mt_append mut_append (vp_name (pv 3)) (vl_cons (ve_sub x (ve_sub x (ve_sub x (ve_var (pv 1)) ve_int) (ve_var (pv 7))) ve_int) vl_nil))))))
    vss_nil)))))
    (vss_one (vs_ret (ve_callB cr_sorted (prim_sortedI x.K) (by rfl) Q.m_sorted (by decide +kernel) (vl_cons (ve_var (pv 4)) vl_nil)))))))
/-! is_wood -/
abbrev n_is_wood : List Str := ["web", "numbers"]
theorem sc_is_wood : FnScope n_is_wood ["web", "numbers"] (defScope s_is_wood) := ⟨rfl, rfl, rfl, by decide +kernel, rfl, by decide +kernel, by decide +kernel⟩
theorem ok_is_wood (Q : Fx G mg) : TA.FnG P w G.K mg b0 CX0 3 Q.a_is_wood Q.fd_is_wood ["web", "numbers"] (spV G [] true 2 f_is_wood) :=
  fnV (S := d_is_wood) (N := n_is_wood) Q.F_is_wood sc_is_wood (by decide) (by decide) fun cd B ou s H E x hg hr =>
    (vss_one (vs_ret (ve_cmp op_isN prim_isN (ve_call (ro := true) (k := 2) (ok_ring_in Q) hg (hr.mono (by decide)) (by rfl) Q.g_ring_in Q.F_ring_in.kp Q.b_ring_in pass0 [] (vl_cons (ve_var (pv 0)) (vl_cons (ve_var (pv 1)) vl_nil))) ve_non (nomark _))))
/-! _law_clumps -/
abbrev n_law_clumps : List Str := ["_law_pot_here", "_law_places", "_law_cut", "_law_lanes", "_law_turn"]
theorem sc_law_clumps : FnScope n_law_clumps ["_law_pot_here", "_law_places"] (defScope s_law_clumps) := ⟨rfl, rfl, rfl, by decide +kernel, rfl, by decide +kernel, by decide +kernel⟩
theorem ok_law_clumps (Q : Fx G mg) : TA.FnG P w G.K mg b0 CX0 3 Q.a_law_clumps Q.fd_law_clumps ["_law_pot_here", "_law_places"] (spV G [0] true 2 f_law_clumps) :=
  fnV (S := d_law_clumps) (N := n_law_clumps) Q.F_law_clumps sc_law_clumps (by decide) (by decide) fun cd B ou s H E x hg hr =>
    (vss_cons (vs_set (i := 2) sc_law_clumps.nd rfl (by first | exact .inl rfl | exact .inr rfl) (ve_opV op_addAll prim_add ve_int (ve_call (ro := true) (k := 1) (ok_law_take Q) hg (hr.mono (by decide)) (by rfl) Q.g_law_take Q.F_law_take.kp Q.b_law_take pass0 [0] (vl_cons (ve_ref (pv 0)) (vl_cons (ve_op op_sub prim_sub (ve_var (pv 1)) ve_int) vl_nil)))))
    (vss_cons (vs_set (i := 3) sc_law_clumps.nd rfl (by first | exact .inl rfl | exact .inr rfl) (ve_call (ro := true) (k := 2) (ok_law_tied Q) hg (hr.mono (by decide)) (by rfl) Q.g_law_tied Q.F_law_tied.kp Q.b_law_tied pass0 [0] (vl_ref (ve_ref (pv 0)) (vl_cons ve_int (vl_cons (ve_var (pv 2)) (vl_cons (ve_opV op_addAll prim_add ve_int (ve_call (ro := true) (k := 1) (ok_law_take Q) hg (hr.mono (by decide)) (by rfl) Q.g_law_take Q.F_law_take.kp Q.b_law_take pass0 [0] (vl_cons (ve_ref (pv 0)) (vl_cons ve_int vl_nil)))) vl_nil))))))
    (vss_cons (vs_set (i := 3) sc_law_clumps.nd rfl (by first | exact .inl rfl | exact .inr rfl) (ve_opV op_addAll prim_add (ve_var (pv 3)) (ve_call (ro := true) (k := 2) (ok_law_tied Q) hg (hr.mono (by decide)) (by rfl) Q.g_law_tied Q.F_law_tied.kp Q.b_law_tied pass0 [0] (vl_ref (ve_ref (pv 0)) (vl_cons (ve_var (pv 2)) (vl_cons (ve_var (pv 1)) (vl_cons (ve_opV op_addAll prim_add ve_int (ve_call (ro := true) (k := 1) (ok_law_take Q) hg (hr.mono (by decide)) (by rfl) Q.g_law_take Q.F_law_take.kp Q.b_law_take pass0 [0] (vl_cons (ve_ref (pv 0)) (vl_cons ve_int vl_nil)))) vl_nil)))))))
    (vss_cons (vs_for (g := fun b => (gSet (.pr b) 4)) x PassesOwn.never (vi_range1 (by rfl) Q.m_range (ve_call (ro := true) (k := 1) (ok_law_take Q) hg (hr.mono (by decide)) (by rfl) Q.g_law_take Q.F_law_take.kp Q.b_law_take pass0 [0] (vl_cons (ve_ref (pv 0)) (vl_cons ve_int vl_nil)))) (fun b => (vg_name (i := 4) sc_law_clumps.nd rfl (by first | exact .inl rfl | exact .inr rfl))) (vss_one (vs_expr (ve_mut x PySem.F.plainAttrs_list PySem.F.slot_list_append PySem.F.type_list_append mt_append mut_append (vp_name (pv 3)) (vl_cons (ve_tup (vl_cons (ve_call (ro := true) (k := 1) (ok_law_take Q) hg (hr.mono (by decide)) (by rfl) Q.g_law_take Q.F_law_take.kp Q.b_law_take pass0 [0] (vl_cons (ve_ref (pv 0)) (vl_cons (ve_var (pv 2)) vl_nil))) (vl_cons (ve_opV op_addAll prim_add (ve_var (pv 2)) (ve_call (ro := true) (k := 1) (ok_law_take Q) hg (hr.mono (by decide)) (by rfl) Q.g_law_take Q.F_law_take.kp Q.b_law_take pass0 [0] (vl_cons (ve_ref (pv 0)) (vl_cons (ve_op op_sub prim_sub (ve_var (pv 1)) (ve_var (pv 2))) vl_nil)))) vl_nil))) vl_nil)))))
    (vss_one (vs_ret (ve_var (pv 3))))))))
/-! _law_numbers -/
abbrev n_law_numbers : List Str := ["_law_pot_here", "_law_web_here", "_law_root", "_law_way", "_law_many", "_law_found", "_law_other", "_law_number"]
theorem sc_law_numbers : FnScope n_law_numbers ["_law_pot_here", "_law_web_here", "_law_root"] (defScope s_law_numbers) := ⟨rfl, rfl, rfl, by decide +kernel, rfl, by decide +kernel, by decide +kernel⟩
theorem ok_law_numbers (Q : Fx G mg) : TA.FnG P w G.K mg b0 CX0 3 Q.a_law_numbers Q.fd_law_numbers ["_law_pot_here", "_law_web_here", "_law_root"] (spV G [0] true 3 f_law_numbers) :=
  fnV (S := d_law_numbers) (N := n_law_numbers) Q.F_law_numbers sc_law_numbers (by decide) (by decide) fun cd B ou s H E x hg hr =>
    (vss_cons (vs_set (i := 3) sc_law_numbers.nd rfl (by first | exact .inl rfl | exact .inr rfl) (ve_call (ro := true) (k := 1) (ok_law_take Q) hg (hr.mono (by decide)) (by rfl) Q.g_law_take Q.F_law_take.kp Q.b_law_take pass0 [0] (vl_cons (ve_ref (pv 0)) (vl_cons ve_int vl_nil))))
    (vss_cons (vs_set (i := 4) sc_law_numbers.nd rfl (by first | exact .inl rfl | exact .inr rfl) (ve_callB call_lenAll (prim_len x.K) (by rfl) Q.m_len (by decide +kernel) (vl_cons (ve_sub x (ve_var (pv 1)) ve_int) vl_nil)))
    (vss_cons (vs_if (vt_cmp (op_eqAll x) (prim_eqA x.K) (ve_var (pv 3)) ve_int (nomark _)) (vss_one (vs_ret (ve_lc x sc_law_numbers.nd (own := [("_law_number", 7)]) (W := [7]) (M := [0]) (g := fun b => (gSet (.pr b) 7)) (t := d_law_numbers_2) (f := d_law_numbers_1) (vi_range1 (by rfl) Q.m_range (ve_var (pv 4))) (blkOk_by (N := n_law_numbers) (sc := (defScope s_law_numbers)) (by decide +kernel)) (fun b _ _ _ _ _ => (vg_name (i := 7) sc_law_numbers.nd rfl (by first | exact .inl rfl | exact .inr rfl))) (fun _ _ _ _ _ => vts_mono (vts_one (vt_cmp (op_eqAll x.blk) (prim_eqA x.blk.K) (ve_call (ro := true) (k := 1) (ok_law_take Q) hg (hr.mono (by decide)) (by rfl) Q.g_law_take Q.F_law_take.kp Q.b_law_take pass0 [0] (vl_cons (ve_ref (pv 0)) (vl_cons ve_int vl_nil))) ve_int (nomark _)))) (fun _ _ _ _ _ => ve_mono (ve_var (pv 7))))))
    vss_nil)
    (vss_cons (vs_set (i := 5) sc_law_numbers.nd rfl (by first | exact .inl rfl | exact .inr rfl) (ve_call (ro := true) (k := 2) (ok_law_grown Q) hg (hr.mono (by decide)) (by rfl) Q.g_law_grown Q.F_law_grown.kp Q.b_law_grown pass0 [0] (vl_cons (ve_ref (pv 0)) (vl_cons (ve_var (pv 1)) (vl_cons (ve_var (pv 2)) vl_nil)))))
    (vss_cons (vs_if (vt_w (vw_or (vt_cmp op_lt prim_lt (ve_var (pv 3)) ve_int (nomark _)) (vw_or1 (vt_cmp (op_eqAll x) (prim_eqA x.K) (ve_var (pv 4)) ve_int (nomark _))))) (vss_one (vs_ret (ve_var (pv 5))))
    vss_nil)
    (vss_cons (vs_set (i := 6) sc_law_numbers.nd rfl (by first | exact .inl rfl | exact .inr rfl) (ve_call (ro := true) (k := 1) (ok_law_take Q) hg (hr.mono (by decide)) (by rfl) Q.g_law_take Q.F_law_take.kp Q.b_law_take pass0 [0] (vl_cons (ve_ref (pv 0)) (vl_cons (ve_var (pv 4)) vl_nil))))
    (vss_cons (vs_if (vt_w (vw_and (vt_cmp (op_neAll x) (prim_neA x.K) (ve_var (pv 3)) ve_int (nomark _)) (vw_and1 (vt_cmp (op_neAll x) (prim_neA x.K) (ve_var (pv 5)) (ve_lst vl_nil) (nomark _))))) (vss_one (vs_expr (ve_mut x PySem.F.plainAttrs_list PySem.F.slot_list_pop PySem.F.type_list_pop mt_popAll mut_pop (vp_name (pv 5)) (vl_cons (ve_call (ro := true) (k := 1) (ok_law_take Q) hg (hr.mono (by decide)) (by rfl) Q.g_law_take Q.F_law_take.kp Q.b_law_take pass0 [0] (vl_cons (ve_ref (pv 0)) (vl_cons (ve_callB call_lenAll (prim_len x.K) (by rfl) Q.m_len (by decide +kernel) (vl_cons (ve_var (pv 5)) vl_nil)) vl_nil))) vl_nil))))
    vss_nil)
    (vss_cons (vs_if (vt_w (vw_and (vt_cmp (op_neAll x) (prim_neA x.K) (ve_var (pv 3)) ve_int (nomark _)) (vw_and1 (vt_cmp (op_notInAll x) (prim_notIn x.K) (ve_var (pv 6)) (ve_var (pv 5)) (by with_unfolding_all rfl))))) (vss_one (vs_expr (ve_mut x PySem.F.plainAttrs_list PySem.F.slot_list_append PySem.F.type_list_append mt_append mut_append (vp_name (pv 5)) (vl_cons (ve_var (pv 6)) vl_nil))))
    vss_nil)
    (vss_one (vs_ret (ve_callB cr_sorted (prim_sortedI x.K) (by rfl) Q.m_sorted (by decide +kernel) (vl_cons (ve_var (pv 5)) vl_nil))))))))))))
/-! is_spread -/
abbrev n_is_spread : List Str := ["lane_web", "root", "numbers", "ends", "number"]
theorem sc_is_spread : FnScope n_is_spread ["lane_web", "root", "numbers"] (defScope s_is_spread) := ⟨rfl, rfl, rfl, by decide +kernel, rfl, by decide +kernel, by decide +kernel⟩
theorem ok_is_spread (Q : Fx G mg) : TA.FnG P w G.K mg b0 CX0 4 Q.a_is_spread Q.fd_is_spread ["lane_web", "root", "numbers"] (spV G [] true 3 f_is_spread) :=
  fnV (S := d_is_spread) (N := n_is_spread) Q.F_is_spread sc_is_spread (by decide) (by decide) fun cd B ou s H E x hg hr =>
    (vss_cons (vs_set (i := 3) sc_is_spread.nd rfl (by first | exact .inl rfl | exact .inr rfl) (ve_callB cr_sorted (prim_sortedI x.K) (by rfl) Q.m_sorted (by decide +kernel) (vl_cons (ve_lc x sc_is_spread.nd (own := [("number", 4)]) (W := [4]) (M := []) (g := fun b => (gSet (.pr b) 4)) (t := tYesF) (f := d_is_spread_1) (vi_seq x (ve_var (pv 2))) (blkOk_by (N := n_is_spread) (sc := (defScope s_is_spread)) (by decide +kernel)) (fun b _ _ _ _ _ => (vg_name (i := 4) sc_is_spread.nd rfl (by first | exact .inl rfl | exact .inr rfl))) (fun _ _ _ _ _ => vts_mono vts_nil) (fun _ _ _ _ _ => ve_mono (ve_sub x.blk (ve_sub x.blk (ve_sub x.blk (ve_var (pv 0)) ve_int) (ve_var (pv 4))) ve_int))) vl_nil)))
    (vss_one (vs_ret (ve_and x (ve_cmp (op_eqAll x) (prim_eqA x.K) (ve_var (pv 3)) (ve_call (ro := true) (k := 1) (ok_others_than Q) hg (hr.mono (by decide)) (by rfl) Q.g_others_than Q.F_others_than.kp Q.b_others_than pass0 [] (vl_cons (ve_var (pv 0)) (vl_cons (ve_var (pv 1)) vl_nil))) (nomark _)) (ve_one (ve_call (ro := true) (k := 3) (ok_is_wood Q) hg (hr.mono (by decide)) (by rfl) Q.g_is_wood Q.F_is_wood.kp Q.b_is_wood pass0 [] (vl_cons (ve_var (pv 0)) (vl_cons (ve_var (pv 2)) vl_nil))))))))
/-! _law_web -/
abbrev n_law_web : List Str := ["_law_pot_here", "_law_way", "_law_is_turned", "_law_places", "_law_lanes", "_law_k"]
theorem sc_law_web : FnScope n_law_web ["_law_pot_here"] (defScope s_law_web) := ⟨rfl, rfl, rfl, by decide +kernel, rfl, by decide +kernel, by decide +kernel⟩
theorem ok_law_web (Q : Fx G mg) : TA.FnG P w G.K mg b0 CX0 4 Q.a_law_web Q.fd_law_web ["_law_pot_here"] (spV G [0] true 1 f_law_web) :=
  fnV (S := d_law_web) (N := n_law_web) Q.F_law_web sc_law_web (by decide) (by decide) fun cd B ou s H E x hg hr =>
    (vss_cons (vs_set (i := 1) sc_law_web.nd rfl (by first | exact .inl rfl | exact .inr rfl) (ve_call (ro := true) (k := 1) (ok_law_take Q) hg (hr.mono (by decide)) (by rfl) Q.g_law_take Q.F_law_take.kp Q.b_law_take pass0 [0] (vl_cons (ve_ref (pv 0)) (vl_cons ve_int vl_nil))))
    (vss_cons (vs_set (i := 2) sc_law_web.nd rfl (by first | exact .inl rfl | exact .inr rfl) (ve_cmp (op_eqAll x) (prim_eqA x.K) (ve_call (ro := true) (k := 1) (ok_law_take Q) hg (hr.mono (by decide)) (by rfl) Q.g_law_take Q.F_law_take.kp Q.b_law_take pass0 [0] (vl_cons (ve_ref (pv 0)) (vl_cons ve_int vl_nil))) ve_int (nomark _)))
    (vss_cons (vs_set (i := 3) sc_law_web.nd rfl (by first | exact .inl rfl | exact .inr rfl) (ve_opV op_addAll prim_add ve_int (ve_call (ro := true) (k := 1) (ok_law_take Q) hg (hr.mono (by decide)) (by rfl) Q.g_law_take Q.F_law_take.kp Q.b_law_take pass0 [0] (vl_ref (ve_ref (pv 0)) (vl_cons (ve_sub x (ve_lst (vl_cons ve_int (vl_cons ve_int (vl_cons ve_int (vl_cons ve_int vl_nil))))) (ve_call (ro := true) (k := 1) (ok_law_take Q) hg (hr.mono (by decide)) (by rfl) Q.g_law_take Q.F_law_take.kp Q.b_law_take pass0 [0] (vl_cons (ve_ref (pv 0)) (vl_cons ve_int vl_nil)))) vl_nil)))))
    (vss_cons (vs_set (i := 4) sc_law_web.nd rfl (by first | exact .inl rfl | exact .inr rfl) (ve_lst vl_nil))
    (vss_cons (vs_if (vt_w (vw_and (vt_cmp (op_eqAll x) (prim_eqA x.K) (ve_var (pv 1)) ve_int (nomark _)) (vw_and1 (vt_cmp op_gt prim_gt (ve_var (pv 3)) ve_int (nomark _))))) (vss_one (vs_setLc (i := 4) x sc_law_web.nd rfl rfl (sw_true rfl rfl rfl (by decide +kernel)) (own := [("_law_k", 5)]) (W := [5]) (M := [0]) (g := fun b => (gSet (.pr b) 5)) (t := tYesF) (f := d_law_web_1) (vi_range1 (by rfl) Q.m_range (ve_call (ro := true) (k := 1) (ok_law_take Q) hg (hr.mono (by decide)) (by rfl) Q.g_law_take Q.F_law_take.kp Q.b_law_take pass0 [0] (vl_ref (ve_ref (pv 0)) (vl_cons (ve_sub x (ve_lst (vl_cons ve_int (vl_cons ve_int (vl_cons ve_int (vl_cons ve_int vl_nil))))) (ve_call (ro := true) (k := 1) (ok_law_take Q) hg (hr.mono (by decide)) (by rfl) Q.g_law_take Q.F_law_take.kp Q.b_law_take pass0 [0] (vl_cons (ve_ref (pv 0)) (vl_cons ve_int vl_nil)))) vl_nil)))) (blkOk_by (N := n_law_web) (sc := (defScope s_law_web)) (by decide +kernel)) (fun b _ _ _ _ _ => (vg_name (i := 5) sc_law_web.nd rfl (by first | exact .inl rfl | exact .inr rfl))) (fun _ _ _ _ _ => vts_mono vts_nil) (fun _ _ _ _ _ => ve_mono (ve_call (ro := true) (k := 2) (ok_law_pair Q) hg (hr.mono (by decide)) (by rfl) Q.g_law_pair Q.F_law_pair.kp Q.b_law_pair pass0 [0] (vl_cons (ve_ref (pv 0)) (vl_cons (ve_var (pv 3)) vl_nil))))))
    vss_nil)
    (vss_cons (vs_if (vt_w (vw_and (vt_cmp (op_eqAll x) (prim_eqA x.K) (ve_var (pv 1)) ve_int (nomark _)) (vw_and1 (vt_cmp op_gt prim_gt (ve_var (pv 3)) ve_int (nomark _))))) (vss_cons (vs_set (i := 4) sc_law_web.nd rfl (by first | exact .inl rfl | exact .inr rfl) (ve_call (ro := true) (k := 2) (ok_law_tied Q) hg (hr.mono (by decide)) (by rfl) Q.g_law_tied Q.F_law_tied.kp Q.b_law_tied pass0 [0] (vl_ref (ve_ref (pv 0)) (vl_cons ve_int (vl_cons (ve_var (pv 3)) (vl_cons (ve_opV op_addAll prim_add ve_int (ve_call (ro := true) (k := 1) (ok_law_take Q) hg (hr.mono (by decide)) (by rfl) Q.g_law_take Q.F_law_take.kp Q.b_law_take pass0 [0] (vl_cons (ve_ref (pv 0)) (vl_cons ve_int vl_nil)))) vl_nil))))))
    (vss_cons (vs_if (vt_cmp (op_eqAll x) (prim_eqA x.K) (ve_call (ro := true) (k := 1) (ok_law_take Q) hg (hr.mono (by decide)) (by rfl) Q.g_law_take Q.F_law_take.kp Q.b_law_take pass0 [0] (vl_cons (ve_ref (pv 0)) (vl_cons ve_int vl_nil))) ve_int (nomark _)) (vss_one (vs_expr (ve_mut x PySem.F.plainAttrs_list PySem.F.slot_list_pop PySem.F.type_list_pop mt_popAll mut_pop (vp_name (pv 4)) (vl_cons (ve_call (ro := true) (k := 1) (ok_law_take Q) hg (hr.mono (by decide)) (by rfl) Q.g_law_take Q.F_law_take.kp Q.b_law_take pass0 [0] (vl_cons (ve_ref (pv 0)) (vl_cons (ve_callB call_lenAll (prim_len x.K) (by rfl) Q.m_len (by decide +kernel) (vl_cons (ve_var (pv 4)) vl_nil)) vl_nil))) vl_nil))))
    vss_nil)
    (vss_one (vs_set (i := 4) sc_law_web.nd rfl (by first | exact .inl rfl | exact .inr rfl) (ve_opV op_addAll prim_add (ve_var (pv 4)) (ve_lc x sc_law_web.nd (own := [("_law_k", 5)]) (W := [5]) (M := [0]) (g := fun b => (gSet (.pr b) 5)) (t := tYesF) (f := d_law_web_2) (vi_range1 (by rfl) Q.m_range (ve_call (ro := true) (k := 1) (ok_law_take Q) hg (hr.mono (by decide)) (by rfl) Q.g_law_take Q.F_law_take.kp Q.b_law_take pass0 [0] (vl_cons (ve_ref (pv 0)) (vl_cons ve_int vl_nil)))) (blkOk_by (N := n_law_web) (sc := (defScope s_law_web)) (by decide +kernel)) (fun b _ _ _ _ _ => (vg_name (i := 5) sc_law_web.nd rfl (by first | exact .inl rfl | exact .inr rfl))) (fun _ _ _ _ _ => vts_mono vts_nil) (fun _ _ _ _ _ => ve_mono (ve_call (ro := true) (k := 2) (ok_law_pair Q) hg (hr.mono (by decide)) (by rfl) Q.g_law_pair Q.F_law_pair.kp Q.b_law_pair pass0 [0] (vl_cons (ve_ref (pv 0)) (vl_cons (ve_var (pv 3)) vl_nil))))))))))
    vss_nil)
    (vss_cons (vs_if (vt_w (vw_and (vt_cmp (op_eqAll x) (prim_eqA x.K) (ve_var (pv 1)) ve_int (nomark _)) (vw_and1 (vt_cmp op_gt prim_gt (ve_var (pv 3)) ve_int (nomark _))))) (vss_one (vs_set (i := 4) sc_law_web.nd rfl (by first | exact .inl rfl | exact .inr rfl) (ve_call (ro := true) (k := 3) (ok_law_clumps Q) hg (hr.mono (by decide)) (by rfl) Q.g_law_clumps Q.F_law_clumps.kp Q.b_law_clumps pass0 [0] (vl_cons (ve_ref (pv 0)) (vl_cons (ve_var (pv 3)) vl_nil)))))
    vss_nil)
    (vss_cons (vs_if (vt_cmp (op_eqAll x) (prim_eqA x.K) (ve_var (pv 1)) ve_int (nomark _)) (vss_cons (vs_set (i := 3) sc_law_web.nd rfl (by first | exact .inl rfl | exact .inr rfl) (ve_opV op_addAll prim_add ve_int (ve_call (ro := true) (k := 1) (ok_law_take Q) hg (hr.mono (by decide)) (by rfl) Q.g_law_take Q.F_law_take.kp Q.b_law_take pass0 [0] (vl_cons (ve_ref (pv 0)) (vl_cons ve_int vl_nil)))))
    (vss_one (vs_setLc (i := 4) x sc_law_web.nd rfl rfl (sw_true rfl rfl rfl (by decide +kernel)) (own := [("_law_k", 5)]) (W := [5]) (M := [0]) (g := fun b => (gSet (.pr b) 5)) (t := tYesF) (f := d_law_web_3) (vi_range1 (by rfl) Q.m_range (ve_call (ro := true) (k := 1) (ok_law_take Q) hg (hr.mono (by decide)) (by rfl) Q.g_law_take Q.F_law_take.kp Q.b_law_take pass0 [0] (vl_cons (ve_ref (pv 0)) (vl_cons ve_int vl_nil)))) (blkOk_by (N := n_law_web) (sc := (defScope s_law_web)) (by decide +kernel)) (fun b _ _ _ _ _ => (vg_name (i := 5) sc_law_web.nd rfl (by first | exact .inl rfl | exact .inr rfl))) (fun _ _ _ _ _ => vts_mono vts_nil) (fun _ _ _ _ _ => ve_mono (ve_call (ro := true) (k := 2) (ok_law_pair Q) hg (hr.mono (by decide)) (by rfl) Q.g_law_pair Q.F_law_pair.kp Q.b_law_pair pass0 [0] (vl_cons (ve_ref (pv 0)) (vl_cons (ve_var (pv 3)) vl_nil)))))))
    vss_nil)
    (vss_cons (vs_if (vt_truth x (ve_var (pv 2))) (vss_one (vs_set (i := 4) sc_law_web.nd rfl (by first | exact .inl rfl | exact .inr rfl) (ve_call (ro := true) (k := 2) (ok_law_turned Q) hg (hr.mono (by decide)) (by rfl) Q.g_law_turned Q.F_law_turned.kp Q.b_law_turned pass0 [0] (vl_cons (ve_ref (pv 0)) (vl_cons (ve_var (pv 3)) (vl_cons (ve_var (pv 4)) vl_nil))))))
    vss_nil)
    (vss_one (vs_ret (ve_tup (vl_cons (ve_own (ve_var (pv 3))) (vl_cons (ve_own (ve_slice x (ve_var (pv 4)) vo_none (vo_some ve_int))) vl_nil))))))))))))))
/-! _law_right -/
abbrev n_law_right : List Str := ["_law_web_here", "_law_root", "_law_numbers_here", "_law_is_tuple", "_law_handed", "_law_told"]
theorem sc_law_right : FnScope n_law_right ["_law_web_here", "_law_root", "_law_numbers_here", "_law_is_tuple"] (defScope s_law_right) := ⟨rfl, rfl, rfl, by decide +kernel, rfl, by decide +kernel, by decide +kernel⟩
theorem ok_law_right (Q : Fx G mg) : TA.FnG P w G.K mg b0 CX0 5 Q.a_law_right Q.fd_law_right ["_law_web_here", "_law_root", "_law_numbers_here", "_law_is_tuple"] (spV G [] true 4 f_law_right) :=
  fnV (S := d_law_right) (N := n_law_right) Q.F_law_right sc_law_right (by decide) (by decide) fun cd B ou s H E x hg hr =>
    (vss_cons (vs_set (i := 4) sc_law_right.nd rfl (by first | exact .inl rfl | exact .inr rfl) (ve_callTy call_list_of (prim_list x.K) (by rfl) Q.m_list (by decide +kernel) (vl_cons (ve_var (pv 2)) vl_nil)))
    (vss_cons (vs_if (vt_truth x (ve_var (pv 3))) (vss_one (vs_set (i := 4) sc_law_right.nd rfl (by first | exact .inl rfl | exact .inr rfl) (ve_callTy call_tuple_of (prim_tuple x.K) (by rfl) Q.m_tuple (by decide +kernel) (vl_cons (ve_var (pv 2)) vl_nil))))
    vss_nil)
    (vss_cons (vs_set (i := 5) sc_law_right.nd rfl (by first | exact .inl rfl | exact .inr rfl) (ve_call (ro := true) (k := 4) (ok_is_spread Q) hg (hr.mono (by decide)) (by rfl) Q.g_is_spread Q.F_is_spread.kp Q.b_is_spread pass0 [] (vl_cons (ve_var (pv 0)) (vl_cons (ve_var (pv 1)) (vl_cons (ve_var (pv 4)) vl_nil)))))
    (vss_one (vs_ret (ve_and x (ve_isi (T := "bool") x (by rfl) Q.m_isinstance (by rfl) Q.m_bool (by decide) (by decide +kernel) (ve_var (pv 5))) (ve_and x (ve_cmp (op_eqAll x) (prim_eqA x.K) (ve_var (pv 5)) (ve_call (ro := true) (k := 1) (ok_law_is_spread Q) hg (hr.mono (by decide)) (by rfl) Q.g_law_is_spread Q.F_law_is_spread.kp Q.b_law_is_spread pass0 [] (vl_cons (ve_var (pv 0)) (vl_cons (ve_var (pv 1)) (vl_cons (ve_var (pv 2)) vl_nil)))) (nomark _)) (ve_one (ve_cmp (op_eqAll x) (prim_eqA x.K) (ve_callTy call_list_of (prim_list x.K) (by rfl) Q.m_list (by decide +kernel) (vl_cons (ve_var (pv 4)) vl_nil)) (ve_var (pv 2)) (nomark _))))))))))
/-! law -/
abbrev n_law : List Str := ["_law_script", "_law_before", "_law_cell", "_law_pot_here", "_law_is_tuple", "_law_places", "_law_lanes", "_law_web_here", "_law_root", "_law_other", "_law_turn", "_law_numbers_here"]
theorem sc_law : FnScope n_law ["_law_script"] (defScope s_law) := ⟨rfl, rfl, rfl, by decide +kernel, rfl, by decide +kernel, by decide +kernel⟩
theorem ok_law (Q : Fx G mg) : TA.FnG P w G.K mg b0 CX0 6 Q.a_law Q.fd_law ["_law_script"] (spV G [] true 1 f_law) :=
  fnV (S := d_law) (N := n_law) Q.F_law sc_law (by decide) (by decide) fun cd B ou s H E x hg hr =>
    (vss_cons (vs_set (i := 1) sc_law.nd rfl (by first | exact .inl rfl | exact .inr rfl) (ve_tup (vl_cons (ve_tup (vl_cons ve_int (vl_cons (ve_tup vl_nil) vl_nil))) (vl_cons ve_int (vl_cons (ve_lst vl_nil) vl_nil)))))
    (vss_cons (vs_for (g := fun b => (gSet (.pr b) 2)) x PassesOwn.never (vi_seq x (ve_opV op_addAll prim_add (ve_lst (vl_cons (ve_call (ro := true) (k := 1) (ok_law_at Q) hg (hr.mono (by decide)) (by rfl) Q.g_law_at Q.F_law_at.kp Q.b_law_at pass0 [] (vl_cons (ve_var (pv 0)) (vl_cons ve_int vl_nil))) vl_nil)) (ve_slice x (ve_var (pv 0)) (vo_some ve_int) (vo_some ve_int)))) (fun b => (vg_name (i := 2) sc_law.nd rfl (by first | exact .inl rfl | exact .inr rfl))) (vss_cons (vs_set (i := 3) sc_law.nd rfl (by first | exact .inl rfl | exact .inr rfl) (ve_call (ro := true) (k := 1) (ok_law_pot Q) hg (hr.mono (by decide)) (by rfl) Q.g_law_pot Q.F_law_pot.kp Q.b_law_pot pass0 [] (vl_cons (ve_var (pv 2)) vl_nil)))
    (vss_cons (vs_set (i := 4) sc_law.nd rfl (by first | exact .inl rfl | exact .inr rfl) (ve_cmp (op_eqAll x) (prim_eqA x.K) (ve_call (ro := true) (k := 1) (ok_law_take Q) hg (hr.mono (by decide)) (by rfl) Q.g_law_take Q.F_law_take.kp Q.b_law_take pass0 [3] (vl_cons (ve_ref (pv 3)) (vl_cons ve_int vl_nil))) ve_int (nomark _)))
    (vss_cons (vs_unp x (ve_call (ro := true) (k := 4) (ok_law_web Q) hg (hr.mono (by decide)) (by rfl) Q.g_law_web Q.F_law_web.kp Q.b_law_web pass0 [3] (vl_cons (ve_ref (pv 3)) vl_nil)) (vgs_cons (vg_name (i := 5) sc_law.nd rfl (by first | exact .inl rfl | exact .inr rfl)) (vgs_cons (vg_name (i := 6) sc_law.nd rfl (by first | exact .inl rfl | exact .inr rfl)) vgs_nil)))
    (vss_cons (vs_set (i := 7) sc_law.nd rfl (by first | exact .inl rfl | exact .inr rfl) (ve_tup (vl_cons (ve_var (pv 5)) (vl_cons (ve_callTy call_tuple_of (prim_tuple x.K) (by rfl) Q.m_tuple (by decide +kernel) (vl_cons (ve_var (pv 6)) vl_nil)) vl_nil))))
    (vss_cons (vs_set (i := 8) sc_law.nd rfl (by first | exact .inl rfl | exact .inr rfl) (ve_call (ro := true) (k := 1) (ok_law_take Q) hg (hr.mono (by decide)) (by rfl) Q.g_law_take Q.F_law_take.kp Q.b_law_take pass0 [3] (vl_cons (ve_ref (pv 3)) (vl_cons (ve_var (pv 5)) vl_nil))))
    (vss_cons (vs_set (i := 9) sc_law.nd rfl (by first | exact .inl rfl | exact .inr rfl) (ve_call (ro := true) (k := 1) (ok_law_take Q) hg (hr.mono (by decide)) (by rfl) Q.g_law_take Q.F_law_take.kp Q.b_law_take pass0 [3] (vl_cons (ve_ref (pv 3)) (vl_cons (ve_var (pv 5)) vl_nil))))
    (vss_cons (vs_for (g := fun b => (gSet (.pr b) 10)) x PassesOwn.never (vi_range1 (by rfl) Q.m_range ve_int) (fun b => (vg_name (i := 10) sc_law.nd rfl (by first | exact .inl rfl | exact .inr rfl))) (vss_cons (vs_set (i := 11) sc_law.nd rfl (by first | exact .inl rfl | exact .inr rfl) (ve_call (ro := true) (k := 3) (ok_law_numbers Q) hg (hr.mono (by decide)) (by rfl) Q.g_law_numbers Q.F_law_numbers.kp Q.b_law_numbers pass0 [3] (vl_cons (ve_ref (pv 3)) (vl_cons (ve_var (pv 7)) (vl_cons (ve_var (pv 8)) vl_nil)))))
    (vss_cons (vs_if (vt_w (vw_or (vt_not (vt_truth x (ve_call (ro := true) (k := 5) (ok_law_right Q) hg (hr.mono (by decide)) (by rfl) Q.g_law_right Q.F_law_right.kp Q.b_law_right pass0 [] (vl_cons (ve_var (pv 7)) (vl_cons (ve_var (pv 8)) (vl_cons (ve_var (pv 11)) (vl_cons (ve_var (pv 4)) vl_nil))))))) (vw_or1 (vt_not (vt_truth x (ve_call (ro := true) (k := 5) (ok_law_right Q) hg (hr.mono (by decide)) (by rfl) Q.g_law_right Q.F_law_right.kp Q.b_law_right pass0 [] (vl_cons (ve_var (pv 7)) (vl_cons (ve_var (pv 9)) (vl_cons (ve_var (pv 11)) (vl_cons (ve_not x (ve_var (pv 4))) vl_nil)))))))))) (vss_one (vs_ret ve_bl))
    vss_nil)
    (vss_one (vs_if (vt_not (vt_truth x (ve_call (ro := true) (k := 5) (ok_law_right Q) hg (hr.mono (by decide)) (by rfl) Q.g_law_right Q.F_law_right.kp Q.b_law_right pass0 [] (vl_cons (ve_sub x (ve_var (pv 1)) ve_int) (vl_cons (ve_sub x (ve_var (pv 1)) ve_int) (vl_cons (ve_sub x (ve_var (pv 1)) ve_int) (vl_cons (ve_var (pv 4)) vl_nil))))))) (vss_one (vs_ret ve_bl))
    vss_nil)))))
    (vss_one (vs_set (i := 1) sc_law.nd rfl (by first | exact .inl rfl | exact .inr rfl) (ve_tup (vl_cons (ve_var (pv 7)) (vl_cons (ve_var (pv 8)) (vl_cons (ve_var (pv 11)) vl_nil))))))))))))))
    (vss_one (vs_ret ve_bl))))
end
end VL
set_option maxHeartbeats 4000000
namespace VL
open PySem PySem.Spec PyProof.Rows L2
def PotD (p : D) : Prop := ∃ a b : Int, p = .lst [.int a, .int b]
theorem take_ok {p : D} {m : Int} (hp : PotD p) (h0 : 0 < m) (h1 : m < 1073741824) : ∃ (d : Nat) (p' : D), PotD p' ∧ (d : Int) < m ∧ f_law_take [p, .int m] = some (nm d, [p']) := by
  obtain ⟨a, b, rfl⟩ := hp
  by_cases ha : 0 < a
  · have z1 := Int.emod_lt_of_pos a h0
    have z2 := Int.emod_nonneg a (b := m) (by omega)
    have e : ((a % m).toNat : Int) = a % m := by omega
    refine ⟨(a % m).toNat, .lst [.int (a / m), .int b], ⟨_, _, rfl⟩, by omega, ?_⟩
    simp [f_law_take, d_law_take, sl_eq, callD_ap, startE, sSeq_ap, sIf_ap, sSet_ap, sRet_ap, sRetN_ap, sDrop_ap, sAsg_ap, sPar2_ap, sFor_ap, sNext_ap, sSetIt_ap, sPairSet_ap, gSetIt_ap, eVar_ap, eC_ap, ePrim_ap, lCons_ap, lNil_ap, lRef_ap, eOwn_ap, eCall_ap, ioW, setIO, setD, ioOut, ioGet, toT_ap, toTr_ap, tfAnd_ap, tfOr_ap, tfNot_ap, tYesF_ap, eIf_ap, eAnd_ap, eOr_ap, eNot_ap, eMut_ap, pName_ap, pSub1_ap, hasP, hasT, tyD, storL, storable, getP, setP, opApp, opIns, opPop, opClear, opExt, opSet, putE, putV, freeze, frz1, newAll, allNew, Mode.frz, Mode.w, Mode.new, retOk, D.atom, D.atomL, D.flat, D.tru, D.node, D.items, D.isNon, gSet_ap, gsNil, gsCons, gTupE, gSeqE, bindN, putP, iSeq_ap, iRg_ap, iEnm_ap, rg1_ap, rg2_ap, eListRg_ap, oNone_ap, oSome_ap, eSlice_ap, pSlice, pTup_ap, pLst_ap, pI2, pNeg, pAdd, pMul, pEq_int, pEq_bl, pEq_str, pEq_nm, pEq_nil, pIsN, pIx, pLen, pAbs, pMin, pMax, pDivmod, pInt, pList, pTuple, pSumA, pAll, pAny, pIn_lst, pIn_tup, pIsi, D.tyn, isiB, flatD, keyD, Kind.S, wipeE, eDict0_ap, eDict1_ap, pGet, nm, atomL_app, atI_0, atI_1, atI_2, atI_3, ha, h0, h1, atI, ixN, e]
  · have z1 := Int.emod_lt_of_pos ((b * 39373 + 7919) % 2147483629 * ((b * 39373 + 7919) % 2147483629) % 2147483563 / 11) h0
    have z2 := Int.emod_nonneg ((b * 39373 + 7919) % 2147483629 * ((b * 39373 + 7919) % 2147483629) % 2147483563 / 11) (b := m) (by omega)
    have z3 := Int.emod_lt_of_pos (b * 39373 + 7919) (b := 2147483629) (by omega)
    have z4 := Int.emod_nonneg (b * 39373 + 7919) (b := 2147483629) (by omega)
    generalize hc : (b * 39373 + 7919) % 2147483629 = c at *
    refine ⟨(c * c % 2147483563 / 11 % m).toNat, .lst [.int a, .int c], ⟨_, _, rfl⟩, by omega, ?_⟩
    have e : ((c * c % 2147483563 / 11 % m).toNat : Int) = c * c % 2147483563 / 11 % m := by omega
    have z5 : -18446744073709551616 < c ∧ c < 18446744073709551616 := by omega
    simp [f_law_take, d_law_take, sl_eq, callD_ap, startE, sSeq_ap, sIf_ap, sSet_ap, sRet_ap, sRetN_ap, sDrop_ap, sAsg_ap, sPar2_ap, sFor_ap, sNext_ap, sSetIt_ap, sPairSet_ap, gSetIt_ap, eVar_ap, eC_ap, ePrim_ap, lCons_ap, lNil_ap, lRef_ap, eOwn_ap, eCall_ap, ioW, setIO, setD, ioOut, ioGet, toT_ap, toTr_ap, tfAnd_ap, tfOr_ap, tfNot_ap, tYesF_ap, eIf_ap, eAnd_ap, eOr_ap, eNot_ap, eMut_ap, pName_ap, pSub1_ap, hasP, hasT, tyD, storL, storable, getP, setP, opApp, opIns, opPop, opClear, opExt, opSet, putE, putV, freeze, frz1, newAll, allNew, Mode.frz, Mode.w, Mode.new, retOk, D.atom, D.atomL, D.flat, D.tru, D.node, D.items, D.isNon, gSet_ap, gsNil, gsCons, gTupE, gSeqE, bindN, putP, iSeq_ap, iRg_ap, iEnm_ap, rg1_ap, rg2_ap, eListRg_ap, oNone_ap, oSome_ap, eSlice_ap, pSlice, pTup_ap, pLst_ap, pI2, pNeg, pAdd, pMul, pEq_int, pEq_bl, pEq_str, pEq_nm, pEq_nil, pIsN, pIx, pLen, pAbs, pMin, pMax, pDivmod, pInt, pList, pTuple, pSumA, pAll, pAny, pIn_lst, pIn_tup, pIsi, D.tyn, isiB, flatD, keyD, Kind.S, wipeE, eDict0_ap, eDict1_ap, pGet, nm, atomL_app, atI_0, atI_1, atI_2, atI_3, ha, h0, h1, atI, ixN, e, hc, z5]
theorem pot_ok (c : Int) : ∃ p, PotD p ∧ f_law_pot [.int c] = some (p, []) := by
  have h : ∃ a b, f_law_pot [.int c] = some (.lst [.int a, .int b], []) := by
    simp [f_law_pot, d_law_pot, sl_eq, callD_ap, startE, sSeq_ap, sIf_ap, sSet_ap, sRet_ap, sRetN_ap, sDrop_ap, sAsg_ap, sPar2_ap, sFor_ap, sNext_ap, sSetIt_ap, sPairSet_ap, gSetIt_ap, eVar_ap, eC_ap, ePrim_ap, lCons_ap, lNil_ap, lRef_ap, eOwn_ap, eCall_ap, ioW, setIO, setD, ioOut, ioGet, toT_ap, toTr_ap, tfAnd_ap, tfOr_ap, tfNot_ap, tYesF_ap, eIf_ap, eAnd_ap, eOr_ap, eNot_ap, eMut_ap, pName_ap, pSub1_ap, hasP, hasT, tyD, storL, storable, getP, setP, opApp, opIns, opPop, opClear, opExt, opSet, putE, putV, freeze, frz1, newAll, allNew, Mode.frz, Mode.w, Mode.new, retOk, D.atom, D.atomL, D.flat, D.tru, D.node, D.items, D.isNon, gSet_ap, gsNil, gsCons, gTupE, gSeqE, bindN, putP, iSeq_ap, iRg_ap, iEnm_ap, rg1_ap, rg2_ap, eListRg_ap, oNone_ap, oSome_ap, eSlice_ap, pSlice, pTup_ap, pLst_ap, pI2, pNeg, pAdd, pMul, pEq_int, pEq_bl, pEq_str, pEq_nm, pEq_nil, pIsN, pIx, pLen, pAbs, pMin, pMax, pDivmod, pInt, pList, pTuple, pSumA, pAll, pAny, pIn_lst, pIn_tup, pIsi, D.tyn, isiB, flatD, keyD, Kind.S, wipeE, eDict0_ap, eDict1_ap, pGet, nm, atomL_app, atI_0, atI_1, atI_2, atI_3, sizeLine_eq]
  obtain ⟨a, b, h⟩ := h
  exact ⟨_, ⟨a, b, rfl⟩, h⟩
theorem at_ok (ns : List Int) : ∃ c, f_law_at [.scr ns, .int 0] = some (.int c, []) := by
  cases ns with
  | nil => exact ⟨0, by simp [f_law_at, d_law_at, sl_eq, callD_ap, startE, sSeq_ap, sIf_ap, sSet_ap, sRet_ap, sRetN_ap, sDrop_ap, sAsg_ap, sPar2_ap, sFor_ap, sNext_ap, sSetIt_ap, sPairSet_ap, gSetIt_ap, eVar_ap, eC_ap, ePrim_ap, lCons_ap, lNil_ap, lRef_ap, eOwn_ap, eCall_ap, ioW, setIO, setD, ioOut, ioGet, toT_ap, toTr_ap, tfAnd_ap, tfOr_ap, tfNot_ap, tYesF_ap, eIf_ap, eAnd_ap, eOr_ap, eNot_ap, eMut_ap, pName_ap, pSub1_ap, hasP, hasT, tyD, storL, storable, getP, setP, opApp, opIns, opPop, opClear, opExt, opSet, putE, putV, freeze, frz1, newAll, allNew, Mode.frz, Mode.w, Mode.new, retOk, D.atom, D.atomL, D.flat, D.tru, D.node, D.items, D.isNon, gSet_ap, gsNil, gsCons, gTupE, gSeqE, bindN, putP, iSeq_ap, iRg_ap, iEnm_ap, rg1_ap, rg2_ap, eListRg_ap, oNone_ap, oSome_ap, eSlice_ap, pSlice, pTup_ap, pLst_ap, pI2, pNeg, pAdd, pMul, pEq_int, pEq_bl, pEq_str, pEq_nm, pEq_nil, pIsN, pIx, pLen, pAbs, pMin, pMax, pDivmod, pInt, pList, pTuple, pSumA, pAll, pAny, pIn_lst, pIn_tup, pIsi, D.tyn, isiB, flatD, keyD, Kind.S, wipeE, eDict0_ap, eDict1_ap, pGet, nm, atomL_app, atI_0, atI_1, atI_2, atI_3]⟩
  | cons n ns =>
    refine ⟨n, ?_⟩
    have : (0 : Int) < (ns.length : Int) + 1 := by omega
    simp [f_law_at, d_law_at, sl_eq, callD_ap, startE, sSeq_ap, sIf_ap, sSet_ap, sRet_ap, sRetN_ap, sDrop_ap, sAsg_ap, sPar2_ap, sFor_ap, sNext_ap, sSetIt_ap, sPairSet_ap, gSetIt_ap, eVar_ap, eC_ap, ePrim_ap, lCons_ap, lNil_ap, lRef_ap, eOwn_ap, eCall_ap, ioW, setIO, setD, ioOut, ioGet, toT_ap, toTr_ap, tfAnd_ap, tfOr_ap, tfNot_ap, tYesF_ap, eIf_ap, eAnd_ap, eOr_ap, eNot_ap, eMut_ap, pName_ap, pSub1_ap, hasP, hasT, tyD, storL, storable, getP, setP, opApp, opIns, opPop, opClear, opExt, opSet, putE, putV, freeze, frz1, newAll, allNew, Mode.frz, Mode.w, Mode.new, retOk, D.atom, D.atomL, D.flat, D.tru, D.node, D.items, D.isNon, gSet_ap, gsNil, gsCons, gTupE, gSeqE, bindN, putP, iSeq_ap, iRg_ap, iEnm_ap, rg1_ap, rg2_ap, eListRg_ap, oNone_ap, oSome_ap, eSlice_ap, pSlice, pTup_ap, pLst_ap, pI2, pNeg, pAdd, pMul, pEq_int, pEq_bl, pEq_str, pEq_nm, pEq_nil, pIsN, pIx, pLen, pAbs, pMin, pMax, pDivmod, pInt, pList, pTuple, pSumA, pAll, pAny, pIn_lst, pIn_tup, pIsi, D.tyn, isiB, flatD, keyD, Kind.S, wipeE, eDict0_ap, eDict1_ap, pGet, nm, atomL_app, atI_0, atI_1, atI_2, atI_3, atI, ixN, this]
abbrev ln (p : Nat × Nat) : D := .tup [nm p.1, nm p.2]
theorem pair_ok {p : D} {n : Nat} (hp : PotD p) (h1 : 2 ≤ n) (h2 : n ≤ 9) : ∃ (q : Nat × Nat) (p' : D), PotD p' ∧ q.1 < n ∧ q.2 < n ∧ f_law_pair [p, nm n] = some (ln q, [p']) := by
  obtain ⟨a, p1, hp1, ha, e1⟩ := take_ok hp (m := n) (by omega) (by omega)
  obtain ⟨b, p2, hp2, hb, e2⟩ := take_ok hp1 (m := n - 1) (by omega) (by omega)
  by_cases h : a ≤ b
  · refine ⟨(a, b + 1), p2, hp2, by omega, by simp; omega, ?_⟩
    simp [f_law_pair, d_law_pair, sl_eq, callD_ap, startE, sSeq_ap, sIf_ap, sSet_ap, sRet_ap, sRetN_ap, sDrop_ap, sAsg_ap, sPar2_ap, sFor_ap, sNext_ap, sSetIt_ap, sPairSet_ap, gSetIt_ap, eVar_ap, eC_ap, ePrim_ap, lCons_ap, lNil_ap, lRef_ap, eOwn_ap, eCall_ap, ioW, setIO, setD, ioOut, ioGet, toT_ap, toTr_ap, tfAnd_ap, tfOr_ap, tfNot_ap, tYesF_ap, eIf_ap, eAnd_ap, eOr_ap, eNot_ap, eMut_ap, pName_ap, pSub1_ap, hasP, hasT, tyD, storL, storable, getP, setP, opApp, opIns, opPop, opClear, opExt, opSet, putE, putV, freeze, frz1, newAll, allNew, Mode.frz, Mode.w, Mode.new, retOk, D.atom, D.atomL, D.flat, D.tru, D.node, D.items, D.isNon, gSet_ap, gsNil, gsCons, gTupE, gSeqE, bindN, putP, iSeq_ap, iRg_ap, iEnm_ap, rg1_ap, rg2_ap, eListRg_ap, oNone_ap, oSome_ap, eSlice_ap, pSlice, pTup_ap, pLst_ap, pI2, pNeg, pAdd, pMul, pEq_int, pEq_bl, pEq_str, pEq_nm, pEq_nil, pIsN, pIx, pLen, pAbs, pMin, pMax, pDivmod, pInt, pList, pTuple, pSumA, pAll, pAny, pIn_lst, pIn_tup, pIsi, D.tyn, isiB, flatD, keyD, Kind.S, wipeE, eDict0_ap, eDict1_ap, pGet, nm, atomL_app, atI_0, atI_1, atI_2, atI_3, e1, e2, sizeLine_eq, h]
  · refine ⟨(a, b), p2, hp2, by omega, by simp; omega, ?_⟩
    simp [f_law_pair, d_law_pair, sl_eq, callD_ap, startE, sSeq_ap, sIf_ap, sSet_ap, sRet_ap, sRetN_ap, sDrop_ap, sAsg_ap, sPar2_ap, sFor_ap, sNext_ap, sSetIt_ap, sPairSet_ap, gSetIt_ap, eVar_ap, eC_ap, ePrim_ap, lCons_ap, lNil_ap, lRef_ap, eOwn_ap, eCall_ap, ioW, setIO, setD, ioOut, ioGet, toT_ap, toTr_ap, tfAnd_ap, tfOr_ap, tfNot_ap, tYesF_ap, eIf_ap, eAnd_ap, eOr_ap, eNot_ap, eMut_ap, pName_ap, pSub1_ap, hasP, hasT, tyD, storL, storable, getP, setP, opApp, opIns, opPop, opClear, opExt, opSet, putE, putV, freeze, frz1, newAll, allNew, Mode.frz, Mode.w, Mode.new, retOk, D.atom, D.atomL, D.flat, D.tru, D.node, D.items, D.isNon, gSet_ap, gsNil, gsCons, gTupE, gSeqE, bindN, putP, iSeq_ap, iRg_ap, iEnm_ap, rg1_ap, rg2_ap, eListRg_ap, oNone_ap, oSome_ap, eSlice_ap, pSlice, pTup_ap, pLst_ap, pI2, pNeg, pAdd, pMul, pEq_int, pEq_bl, pEq_str, pEq_nm, pEq_nil, pIsN, pIx, pLen, pAbs, pMin, pMax, pDivmod, pInt, pList, pTuple, pSumA, pAll, pAny, pIn_lst, pIn_tup, pIsi, D.tyn, isiB, flatD, keyD, Kind.S, wipeE, eDict0_ap, eDict1_ap, pGet, nm, atomL_app, atI_0, atI_1, atI_2, atI_3, e1, e2, sizeLine_eq, h]
/-- the slots of tied -/
abbrev tiedE (p : D) (lo hi r : Nat) (qs : List (Nat × Nat)) (x5 x6 : Option (Mode × D)) : Env := [some (.io, p), some (.arg, nm lo), some (.arg, nm hi), some (.arg, nm r), some (.own, .lst (qs.map ln)), x5, x6]
theorem tied1 {p : D} {lo hi r : Nat} {qs : List (Nat × Nat)} {x5 x6 : Option (Mode × D)} (hp : PotD p) (h1 : lo < hi) (h2 : hi ≤ 9) (h3 : qs.length ≤ 100) (hq : ∀ q ∈ qs, q.1 < hi ∧ q.2 < hi) :
    ∃ p' qs' x6', PotD p' ∧ (∀ q ∈ qs', q.1 < hi ∧ q.2 < hi) ∧ qs'.length = qs.length + (hi - (lo + 1)) ∧ d_law_tied_2 (tiedE p lo hi r qs x5 x6) = some (.nx (tiedE p' lo hi r qs' x5 x6')) := by
  obtain ⟨E', e1, p', qs', x6', g1, g2, g3, rfl⟩ := forL_inv (g := gSet (.pr true) 6) (b := d_law_tied_1) (ds := (List.range (hi - (lo + 1))).map fun i => nm (lo + 1 + i)) (E := tiedE p lo hi r qs x5 x6)
    (fun i E => ∃ p' qs' x6', PotD p' ∧ (∀ q ∈ qs', q.1 < hi ∧ q.2 < hi) ∧ qs'.length = qs.length + i ∧ E = tiedE p' lo hi r qs' x5 x6')
    ⟨p, qs, x6, hp, hq, rfl, rfl⟩ (by
      rintro i d E hd ⟨p', qs', x6', g1, g2, g3, rfl⟩
      obtain ⟨hi', rfl⟩ := mp_get hd
      obtain ⟨a, p1, k1, k2, k3⟩ := take_ok g1 (m := ((lo + 1 + i : Nat) : Int) - lo) (by omega) (by omega)
      refine ⟨_, _, by simp [gSet_ap, bindN, putP, D.atom]; rfl, ?_, p1, qs' ++ [(lo + a, lo + 1 + i)], some (.own, nm (lo + 1 + i)), k1, ?_, ?_, rfl⟩
      · simp at k3
        have : qs'.length < 16777216 := by omega
        simp [d_law_tied_1, sl_eq, callD_ap, startE, sSeq_ap, sIf_ap, sSet_ap, sRet_ap, sRetN_ap, sDrop_ap, sAsg_ap, sPar2_ap, sFor_ap, sNext_ap, sSetIt_ap, sPairSet_ap, gSetIt_ap, eVar_ap, eC_ap, ePrim_ap, lCons_ap, lNil_ap, lRef_ap, eOwn_ap, eCall_ap, ioW, setIO, setD, ioOut, ioGet, toT_ap, toTr_ap, tfAnd_ap, tfOr_ap, tfNot_ap, tYesF_ap, eIf_ap, eAnd_ap, eOr_ap, eNot_ap, eMut_ap, pName_ap, pSub1_ap, hasP, hasT, tyD, storL, storable, getP, setP, opApp, opIns, opPop, opClear, opExt, opSet, putE, putV, freeze, frz1, newAll, allNew, Mode.frz, Mode.w, Mode.new, retOk, D.atom, D.atomL, D.flat, D.tru, D.node, D.items, D.isNon, gSet_ap, gsNil, gsCons, gTupE, gSeqE, bindN, putP, iSeq_ap, iRg_ap, iEnm_ap, rg1_ap, rg2_ap, eListRg_ap, oNone_ap, oSome_ap, eSlice_ap, pSlice, pTup_ap, pLst_ap, pI2, pNeg, pAdd, pMul, pEq_int, pEq_bl, pEq_str, pEq_nm, pEq_nil, pIsN, pIx, pLen, pAbs, pMin, pMax, pDivmod, pInt, pList, pTuple, pSumA, pAll, pAny, pIn_lst, pIn_tup, pIsi, D.tyn, isiB, flatD, keyD, Kind.S, wipeE, eDict0_ap, eDict1_ap, pGet, nm, atomL_app, atI_0, atI_1, atI_2, atI_3, k3, sizeLine_eq, this]
      · intro q hq'
        rcases List.mem_append.mp hq' with hq' | hq'
        · exact g2 q hq'
        · rw [List.mem_singleton.mp hq']
          simp
          omega
      · simp
        omega)
  refine ⟨p', qs', x6', g1, g2, by simpa using g3, ?_⟩
  have e2 := rg_nat2 lo hi
  have e3 := rgOk_nat2 (a := lo) (b := hi) (by omega) (by omega)
  simp [nm, tiedE] at e1 e2
  simp [d_law_tied_2, sl_eq, callD_ap, startE, sSeq_ap, sIf_ap, sSet_ap, sRet_ap, sRetN_ap, sDrop_ap, sAsg_ap, sPar2_ap, sFor_ap, sNext_ap, sSetIt_ap, sPairSet_ap, gSetIt_ap, eVar_ap, eC_ap, ePrim_ap, lCons_ap, lNil_ap, lRef_ap, eOwn_ap, eCall_ap, ioW, setIO, setD, ioOut, ioGet, toT_ap, toTr_ap, tfAnd_ap, tfOr_ap, tfNot_ap, tYesF_ap, eIf_ap, eAnd_ap, eOr_ap, eNot_ap, eMut_ap, pName_ap, pSub1_ap, hasP, hasT, tyD, storL, storable, getP, setP, opApp, opIns, opPop, opClear, opExt, opSet, putE, putV, freeze, frz1, newAll, allNew, Mode.frz, Mode.w, Mode.new, retOk, D.atom, D.atomL, D.flat, D.tru, D.node, D.items, D.isNon, gSet_ap, gsNil, gsCons, gTupE, gSeqE, bindN, putP, iSeq_ap, iRg_ap, iEnm_ap, rg1_ap, rg2_ap, eListRg_ap, oNone_ap, oSome_ap, eSlice_ap, pSlice, pTup_ap, pLst_ap, pI2, pNeg, pAdd, pMul, pEq_int, pEq_bl, pEq_str, pEq_nm, pEq_nil, pIsN, pIx, pLen, pAbs, pMin, pMax, pDivmod, pInt, pList, pTuple, pSumA, pAll, pAny, pIn_lst, pIn_tup, pIsi, D.tyn, isiB, flatD, keyD, Kind.S, wipeE, eDict0_ap, eDict1_ap, pGet, nm, atomL_app, atI_0, atI_1, atI_2, atI_3, e2, e3, e1]
theorem tied_ok {p : D} {lo hi r : Nat} (hp : PotD p) (h1 : lo < hi) (h2 : hi ≤ 9) (h3 : r ≤ 3) :
    ∃ (qs : List (Nat × Nat)) (p' : D), PotD p' ∧ (∀ q ∈ qs, q.1 < hi ∧ q.2 < hi) ∧ qs.length = r * (hi - (lo + 1)) ∧ f_law_tied [p, nm lo, nm hi, nm r] = some (.lst (qs.map ln), [p']) := by
  obtain ⟨E', e1, p', qs', x5', x6', g1, g2, g3, rfl⟩ := forL_inv (g := gSet (.pr true) 5) (b := d_law_tied_2) (ds := (List.range r).map nm) (E := tiedE p lo hi r [] none none)
    (fun i E => ∃ p' qs' x5' x6', PotD p' ∧ (∀ q ∈ qs', q.1 < hi ∧ q.2 < hi) ∧ qs'.length = i * (hi - (lo + 1)) ∧ E = tiedE p' lo hi r qs' x5' x6')
    ⟨p, [], none, none, hp, by simp, by simp, rfl⟩ (by
      rintro i d E hd ⟨p', qs', x5', x6', g1, g2, g3, rfl⟩
      obtain ⟨hi', rfl⟩ := rg_get hd
      have hb : i * (hi - (lo + 1)) ≤ 3 * 9 := Nat.mul_le_mul (by omega) (by omega)
      obtain ⟨p2, qs2, x62, k1, k2, k3, k4⟩ := tied1 (x5 := some (.own, nm i)) (x6 := x6') g1 h1 h2 (r := r) (by omega) g2
      exact ⟨_, _, by simp [gSet_ap, bindN, putP, D.atom], k4, p2, qs2, _, _, k1, k2, by rw [k3, g3, Nat.succ_mul], rfl⟩)
  refine ⟨qs', p', g1, g2, by simpa using g3, ?_⟩
  have e2 := rg_nat r
  have e3 := rgOk_nat (n := r) (by omega)
  simp [nm, tiedE] at e1
  simp [f_law_tied, d_law_tied, sl_eq, callD_ap, startE, sSeq_ap, sIf_ap, sSet_ap, sRet_ap, sRetN_ap, sDrop_ap, sAsg_ap, sPar2_ap, sFor_ap, sNext_ap, sSetIt_ap, sPairSet_ap, gSetIt_ap, eVar_ap, eC_ap, ePrim_ap, lCons_ap, lNil_ap, lRef_ap, eOwn_ap, eCall_ap, ioW, setIO, setD, ioOut, ioGet, toT_ap, toTr_ap, tfAnd_ap, tfOr_ap, tfNot_ap, tYesF_ap, eIf_ap, eAnd_ap, eOr_ap, eNot_ap, eMut_ap, pName_ap, pSub1_ap, hasP, hasT, tyD, storL, storable, getP, setP, opApp, opIns, opPop, opClear, opExt, opSet, putE, putV, freeze, frz1, newAll, allNew, Mode.frz, Mode.w, Mode.new, retOk, D.atom, D.atomL, D.flat, D.tru, D.node, D.items, D.isNon, gSet_ap, gsNil, gsCons, gTupE, gSeqE, bindN, putP, iSeq_ap, iRg_ap, iEnm_ap, rg1_ap, rg2_ap, eListRg_ap, oNone_ap, oSome_ap, eSlice_ap, pSlice, pTup_ap, pLst_ap, pI2, pNeg, pAdd, pMul, pEq_int, pEq_bl, pEq_str, pEq_nm, pEq_nil, pIsN, pIx, pLen, pAbs, pMin, pMax, pDivmod, pInt, pList, pTuple, pSumA, pAll, pAny, pIn_lst, pIn_tup, pIsi, D.tyn, isiB, flatD, keyD, Kind.S, wipeE, eDict0_ap, eDict1_ap, pGet, nm, atomL_app, atI_0, atI_1, atI_2, atI_3, e2, e3, e1, sizeLine_eq]
abbrev webD (n : Nat) (ps : List (Nat × Nat)) : D := .tup [nm n, .tup (ps.map ln)]
abbrev lsD (ss : List Nat) : D := .lst (ss.map nm)
theorem get_ex {α : Type} {l : List α} {i : Nat} (h : i < l.length) : ∃ a, l[i]? = some a := ⟨l[i], List.getElem?_eq_getElem h⟩
end VL
set_option maxHeartbeats 4000000
namespace VL
open PySem PySem.Spec PyProof.Rows L2
theorem atomL_ln : ∀ qs : List (Nat × Nat), D.atomL (qs.map ln) = true
  | [] => rfl
  | q :: qs => by
    show (D.atom (ln q) && D.atomL (qs.map ln)) = true
    rw [atomL_ln qs]
    rfl
/-! ### clumps -/
abbrev clE (p : D) (n c : Nat) (qs : List (Nat × Nat)) (x4 : Option (Mode × D)) : Env := [some (.io, p), some (.arg, nm n), some (.own, nm c), some (.own, .lst (qs.map ln)), x4]
theorem clumps_ok {p : D} {n : Nat} (hp : PotD p) (h1 : 2 ≤ n) (h2 : n ≤ 9) :
    ∃ (qs : List (Nat × Nat)) (p' : D), PotD p' ∧ (∀ q ∈ qs, q.1 < n ∧ q.2 < n) ∧ qs.length ≤ 60 ∧ f_law_clumps [p, nm n] = some (.lst (qs.map ln), [p']) := by
  obtain ⟨c, p1, hp1, hc, e1⟩ := take_ok hp (m := n - 1) (by omega) (by omega)
  obtain ⟨r, p2, hp2, hr, e2⟩ := take_ok hp1 (m := 3) (by omega) (by omega)
  obtain ⟨qs, p3, hp3, hq, hl, e3⟩ := tied_ok (lo := 0) (hi := c + 1) (r := r + 1) hp2 (by omega) (by omega) (by omega)
  obtain ⟨r', p4, hp4, hr', e4⟩ := take_ok hp3 (m := 3) (by omega) (by omega)
  obtain ⟨qs', p5, hp5, hq', hl', e5⟩ := tied_ok (lo := c + 1) (hi := n) (r := r' + 1) hp4 (by omega) (by omega) (by omega)
  obtain ⟨k, p6, hp6, hk, e6⟩ := take_ok hp5 (m := 4) (by omega) (by omega)
  have b1 : (r + 1) * (c + 1 - (0 + 1)) ≤ 3 * 8 := Nat.mul_le_mul (by omega) (by omega)
  have b2 : (r' + 1) * (n - (c + 1 + 1)) ≤ 3 * 8 := Nat.mul_le_mul (by omega) (by omega)
  obtain ⟨E', e7, p', qs2, x4, g1, g2, g3, rfl⟩ := forL_inv (g := gSet (.pr true) 4) (b := d_law_clumps_1) (ds := (List.range k).map nm) (E := clE p6 n (c + 1) (qs ++ qs') none)
    (fun i E => ∃ p' qs2 x4, PotD p' ∧ (∀ q ∈ qs2, q.1 < n ∧ q.2 < n) ∧ qs2.length ≤ 48 + i ∧ E = clE p' n (c + 1) qs2 x4)
    ⟨p6, qs ++ qs', none, hp6, by
      intro q hq1
      rcases List.mem_append.mp hq1 with hq1 | hq1
      · have := hq q hq1
        omega
      · exact hq' q hq1, by rw [List.length_append]; omega, rfl⟩ (by
      rintro i d E hd ⟨p', qs2, x4, g1, g2, g3, rfl⟩
      obtain ⟨hi', rfl⟩ := rg_get hd
      obtain ⟨a, p7, k1, k2, k3⟩ := take_ok g1 (m := ((c + 1 : Nat) : Int)) (by omega) (by omega)
      obtain ⟨b, p8, l1, l2, l3⟩ := take_ok k1 (m := (n : Int) - ((c + 1 : Nat) : Int)) (by omega) (by omega)
      refine ⟨_, _, by simp [gSet_ap, bindN, putP, D.atom]; rfl, ?_, p8, qs2 ++ [(a, c + 1 + b)], some (.own, nm i), l1, ?_, ?_, rfl⟩
      · simp [nm] at k3 l3
        have : qs2.length < 16777216 := by omega
        simp [d_law_clumps_1, sl_eq, callD_ap, startE, sSeq_ap, sIf_ap, sSet_ap, sRet_ap, sRetN_ap, sDrop_ap, sAsg_ap, sPar2_ap, sFor_ap, sNext_ap, sSetIt_ap, sPairSet_ap, gSetIt_ap, eVar_ap, eC_ap, ePrim_ap, lCons_ap, lNil_ap, lRef_ap, eOwn_ap, eCall_ap, ioW, setIO, setD, ioOut, ioGet, toT_ap, toTr_ap, tfAnd_ap, tfOr_ap, tfNot_ap, tYesF_ap, eIf_ap, eAnd_ap, eOr_ap, eNot_ap, eMut_ap, pName_ap, pSub1_ap, hasP, hasT, tyD, storL, storable, getP, setP, opApp, opIns, opPop, opClear, opExt, opSet, putE, putV, freeze, frz1, newAll, allNew, Mode.frz, Mode.w, Mode.new, retOk, D.atom, D.atomL, D.flat, D.tru, D.node, D.items, D.isNon, gSet_ap, gsNil, gsCons, gTupE, gSeqE, bindN, putP, iSeq_ap, iRg_ap, iEnm_ap, rg1_ap, rg2_ap, eListRg_ap, oNone_ap, oSome_ap, eSlice_ap, pSlice, pTup_ap, pLst_ap, pI2, pNeg, pAdd, pMul, pEq_int, pEq_bl, pEq_str, pEq_nm, pEq_nil, pIsN, pIx, pLen, pAbs, pMin, pMax, pDivmod, pInt, pList, pTuple, pSumA, pAll, pAny, pIn_lst, pIn_tup, pIsi, D.tyn, isiB, flatD, keyD, Kind.S, wipeE, eDict0_ap, eDict1_ap, pGet, nm, atomL_app, atI_0, atI_1, atI_2, atI_3, k3, l3, sizeLine_eq, this]
      · intro q hq'
        rcases List.mem_append.mp hq' with hq' | hq'
        · exact g2 q hq'
        · rw [List.mem_singleton.mp hq']
          simp
          omega
      · simp
        omega)
  refine ⟨qs2, p', g1, g2, by simp at g3; omega, ?_⟩
  have f2 := rg_nat k
  have f3 := rgOk_nat (n := k) (by omega)
  have f4 : qs.length + qs'.length ≤ 16777216 := by omega
  simp [clE, nm] at e7 e3 e5
  simp [f_law_clumps, d_law_clumps, sl_eq, callD_ap, startE, sSeq_ap, sIf_ap, sSet_ap, sRet_ap, sRetN_ap, sDrop_ap, sAsg_ap, sPar2_ap, sFor_ap, sNext_ap, sSetIt_ap, sPairSet_ap, gSetIt_ap, eVar_ap, eC_ap, ePrim_ap, lCons_ap, lNil_ap, lRef_ap, eOwn_ap, eCall_ap, ioW, setIO, setD, ioOut, ioGet, toT_ap, toTr_ap, tfAnd_ap, tfOr_ap, tfNot_ap, tYesF_ap, eIf_ap, eAnd_ap, eOr_ap, eNot_ap, eMut_ap, pName_ap, pSub1_ap, hasP, hasT, tyD, storL, storable, getP, setP, opApp, opIns, opPop, opClear, opExt, opSet, putE, putV, freeze, frz1, newAll, allNew, Mode.frz, Mode.w, Mode.new, retOk, D.atom, D.atomL, D.flat, D.tru, D.node, D.items, D.isNon, gSet_ap, gsNil, gsCons, gTupE, gSeqE, bindN, putP, iSeq_ap, iRg_ap, iEnm_ap, rg1_ap, rg2_ap, eListRg_ap, oNone_ap, oSome_ap, eSlice_ap, pSlice, pTup_ap, pLst_ap, pI2, pNeg, pAdd, pMul, pEq_int, pEq_bl, pEq_str, pEq_nm, pEq_nil, pIsN, pIx, pLen, pAbs, pMin, pMax, pDivmod, pInt, pList, pTuple, pSumA, pAll, pAny, pIn_lst, pIn_tup, pIsi, D.tyn, isiB, flatD, keyD, Kind.S, wipeE, eDict0_ap, eDict1_ap, pGet, nm, atomL_app, atI_0, atI_1, atI_2, atI_3, Int.add_comm 1, e1, e2, e3, e4, e5, e6, f2, f3, f4, e7, sizeLine_eq, atomL_ln]
end VL
set_option maxHeartbeats 4000000
namespace VL
open PySem PySem.Spec PyProof.Rows L2
/-! ### turned -/
abbrev tuE (p : D) (n : Nat) (qs : List (Nat × Nat)) (ns : List Nat) (x4 x5 x6 : Option (Mode × D)) : Env := [some (.io, p), some (.arg, nm n), some (.arg, .lst (qs.map ln)), some (.own, .lst (ns.map nm)), x4, x5, x6]
theorem turned_ok {p : D} {n : Nat} {qs : List (Nat × Nat)} (hp : PotD p) (h2 : n ≤ 9) (hq : ∀ q ∈ qs, q.1 < n ∧ q.2 < n) (hl : qs.length ≤ 100) :
    ∃ (rs : List (Nat × Nat)) (p' : D), PotD p' ∧ (∀ q ∈ rs, q.1 < n ∧ q.2 < n) ∧ rs.length = qs.length ∧ f_law_turned [p, nm n, .lst (qs.map ln)] = some (.lst (rs.map ln), [p']) := by
  obtain ⟨E', e1, p', ns, x4, g1, g2, g3, rfl⟩ := forL_inv (g := gSet (.pr true) 4) (b := d_law_turned_1) (ds := (List.range n).map nm) (E := tuE p n qs [] none none none)
    (fun i E => ∃ p' ns x4, PotD p' ∧ (∀ a ∈ ns, a < n) ∧ ns.length = i ∧ E = tuE p' n qs ns x4 none none)
    ⟨p, [], none, hp, by simp, rfl, rfl⟩ (by
      rintro i d E hd ⟨p', ns, x4, g1, g2, g3, rfl⟩
      obtain ⟨hi', rfl⟩ := rg_get hd
      obtain ⟨a, p1, k1, k2, k3⟩ := take_ok g1 (m := (i : Int) + 1) (by omega) (by omega)
      refine ⟨_, _, by simp [gSet_ap, bindN, putP, D.atom]; rfl, ?_, p1, ns.take a ++ [i] ++ ns.drop a, some (.own, nm i), k1, ?_, ?_, rfl⟩
      · have : ns.length < 16777216 := by omega
        have h9 : (a : Int) < 9223372036854775808 := by omega
        simp [d_law_turned_1, sl_eq, callD_ap, startE, sSeq_ap, sIf_ap, sSet_ap, sRet_ap, sRetN_ap, sDrop_ap, sAsg_ap, sPar2_ap, sFor_ap, sNext_ap, sSetIt_ap, sPairSet_ap, gSetIt_ap, eVar_ap, eC_ap, ePrim_ap, lCons_ap, lNil_ap, lRef_ap, eOwn_ap, eCall_ap, ioW, setIO, setD, ioOut, ioGet, toT_ap, toTr_ap, tfAnd_ap, tfOr_ap, tfNot_ap, tYesF_ap, eIf_ap, eAnd_ap, eOr_ap, eNot_ap, eMut_ap, pName_ap, pSub1_ap, hasP, hasT, tyD, storL, storable, getP, setP, opApp, opIns, opPop, opClear, opExt, opSet, putE, putV, freeze, frz1, newAll, allNew, Mode.frz, Mode.w, Mode.new, retOk, D.atom, D.atomL, D.flat, D.tru, D.node, D.items, D.isNon, gSet_ap, gsNil, gsCons, gTupE, gSeqE, bindN, putP, iSeq_ap, iRg_ap, iEnm_ap, rg1_ap, rg2_ap, eListRg_ap, oNone_ap, oSome_ap, eSlice_ap, pSlice, pTup_ap, pLst_ap, pI2, pNeg, pAdd, pMul, pEq_int, pEq_bl, pEq_str, pEq_nm, pEq_nil, pIsN, pIx, pLen, pAbs, pMin, pMax, pDivmod, pInt, pList, pTuple, pSumA, pAll, pAny, pIn_lst, pIn_tup, pIsi, D.tyn, isiB, flatD, keyD, Kind.S, wipeE, eDict0_ap, eDict1_ap, pGet, nm, atomL_app, atI_0, atI_1, atI_2, atI_3, k3, sizeLine_eq, this, h9]
      · intro q hq'
        simp only [List.mem_append, List.mem_singleton] at hq'
        rcases hq' with (hq' | hq') | hq'
        · exact g2 q (List.mem_of_mem_take hq')
        · omega
        · exact g2 q (List.mem_of_mem_drop hq')
      · simp
        omega)
  simp at g3
  obtain ⟨ys, E', e2, rs, m1, m2, rfl, rfl⟩ := lcL_inv (g := gTupE 2 (gsCons (gSet (.pr false) 5) (gsCons (gSet (.pr false) 6) gsNil))) (t := tYesF) (f := d_law_turned_2) (vs := [5, 6]) (ds := qs.map ln) (E := tuE p' n qs ns x4 none none)
    (fun i acc E => ∃ rs : List (Nat × Nat), (∀ q ∈ rs, q.1 < n ∧ q.2 < n) ∧ rs.length = i ∧ acc = rs.map ln ∧ E = tuE p' n qs ns x4 none none)
    ⟨[], by simp, rfl, rfl, rfl⟩ (by
      rintro i d acc E hd ⟨rs, m1, m2, rfl, rfl⟩
      rw [List.getElem?_map] at hd
      cases hq0 : qs[i]? with
      | none => rw [hq0] at hd; cases hd
      | some q =>
        rw [hq0] at hd
        cases hd
        have hb := hq q (List.mem_of_getElem? hq0)
        have i1 : (ns.map nm)[q.1]? = some (nm ns[q.1]) := by rw [List.getElem?_map, List.getElem?_eq_getElem (by omega)]; rfl
        have i2 : (ns.map nm)[q.2]? = some (nm ns[q.2]) := by rw [List.getElem?_map, List.getElem?_eq_getElem (by omega)]; rfl
        refine ⟨tuE p' n qs ns x4 (some (.own, nm q.1)) (some (.own, nm q.2)), true, _, by simp [sl_eq, callD_ap, startE, sSeq_ap, sIf_ap, sSet_ap, sRet_ap, sRetN_ap, sDrop_ap, sAsg_ap, sPar2_ap, sFor_ap, sNext_ap, sSetIt_ap, sPairSet_ap, gSetIt_ap, eVar_ap, eC_ap, ePrim_ap, lCons_ap, lNil_ap, lRef_ap, eOwn_ap, eCall_ap, ioW, setIO, setD, ioOut, ioGet, toT_ap, toTr_ap, tfAnd_ap, tfOr_ap, tfNot_ap, tYesF_ap, eIf_ap, eAnd_ap, eOr_ap, eNot_ap, eMut_ap, pName_ap, pSub1_ap, hasP, hasT, tyD, storL, storable, getP, setP, opApp, opIns, opPop, opClear, opExt, opSet, putE, putV, freeze, frz1, newAll, allNew, Mode.frz, Mode.w, Mode.new, retOk, D.atom, D.atomL, D.flat, D.tru, D.node, D.items, D.isNon, gSet_ap, gsNil, gsCons, gTupE, gSeqE, bindN, putP, iSeq_ap, iRg_ap, iEnm_ap, rg1_ap, rg2_ap, eListRg_ap, oNone_ap, oSome_ap, eSlice_ap, pSlice, pTup_ap, pLst_ap, pI2, pNeg, pAdd, pMul, pEq_int, pEq_bl, pEq_str, pEq_nm, pEq_nil, pIsN, pIx, pLen, pAbs, pMin, pMax, pDivmod, pInt, pList, pTuple, pSumA, pAll, pAny, pIn_lst, pIn_tup, pIsi, D.tyn, isiB, flatD, keyD, Kind.S, wipeE, eDict0_ap, eDict1_ap, pGet, nm, atomL_app, atI_0, atI_1, atI_2, atI_3], rfl, fun z => (by cases z), fun _ => ⟨ln (ns[q.1], ns[q.2]), tuE p' n qs ns x4 (some (.own, nm q.1)) (some (.own, nm q.2)), ?_, rs ++ [(ns[q.1], ns[q.2])], ?_, ?_, ?_, ?_⟩⟩
        · have j1 := atI_nat (ns.map nm) q.1
          have j2 := atI_nat (ns.map nm) q.2
          rw [i1] at j1
          rw [i2] at j2
          simp only [d_law_turned_2, sl_eq, callD_ap, startE, sSeq_ap, sIf_ap, sSet_ap, sRet_ap, sRetN_ap, sDrop_ap, sAsg_ap, sPar2_ap, sFor_ap, sNext_ap, sSetIt_ap, sPairSet_ap, gSetIt_ap, eVar_ap, eC_ap, ePrim_ap, lCons_ap, lNil_ap, lRef_ap, eOwn_ap, eCall_ap, ioW, setIO, setD, ioOut, ioGet, toT_ap, toTr_ap, tfAnd_ap, tfOr_ap, tfNot_ap, tYesF_ap, eIf_ap, eAnd_ap, eOr_ap, eNot_ap, eMut_ap, pName_ap, pSub1_ap, hasP, hasT, tyD, storL, storable, getP, setP, opApp, opIns, opPop, opClear, opExt, opSet, putE, putV, freeze, frz1, newAll, allNew, Mode.frz, Mode.w, Mode.new, retOk, D.atom, D.atomL, D.flat, D.tru, D.node, D.items, D.isNon, gSet_ap, gsNil, gsCons, gTupE, gSeqE, bindN, putP, iSeq_ap, iRg_ap, iEnm_ap, rg1_ap, rg2_ap, eListRg_ap, oNone_ap, oSome_ap, eSlice_ap, pSlice, pTup_ap, pLst_ap, pI2, pNeg, pAdd, pMul, pEq_int, pEq_bl, pEq_str, pEq_nm, pEq_nil, pIsN, pIx, pLen, pAbs, pMin, pMax, pDivmod, pInt, pList, pTuple, pSumA, pAll, pAny, pIn_lst, pIn_tup, pIsi, D.tyn, isiB, flatD, keyD, Kind.S, wipeE, eDict0_ap, eDict1_ap, pGet, nm, atomL_app, atI_0, atI_1, atI_2, atI_3] at *
          simp [sl_eq, callD_ap, startE, sSeq_ap, sIf_ap, sSet_ap, sRet_ap, sRetN_ap, sDrop_ap, sAsg_ap, sPar2_ap, sFor_ap, sNext_ap, sSetIt_ap, sPairSet_ap, gSetIt_ap, eVar_ap, eC_ap, ePrim_ap, lCons_ap, lNil_ap, lRef_ap, eOwn_ap, eCall_ap, ioW, setIO, setD, ioOut, ioGet, toT_ap, toTr_ap, tfAnd_ap, tfOr_ap, tfNot_ap, tYesF_ap, eIf_ap, eAnd_ap, eOr_ap, eNot_ap, eMut_ap, pName_ap, pSub1_ap, hasP, hasT, tyD, storL, storable, getP, setP, opApp, opIns, opPop, opClear, opExt, opSet, putE, putV, freeze, frz1, newAll, allNew, Mode.frz, Mode.w, Mode.new, retOk, D.atom, D.atomL, D.flat, D.tru, D.node, D.items, D.isNon, gSet_ap, gsNil, gsCons, gTupE, gSeqE, bindN, putP, iSeq_ap, iRg_ap, iEnm_ap, rg1_ap, rg2_ap, eListRg_ap, oNone_ap, oSome_ap, eSlice_ap, pSlice, pTup_ap, pLst_ap, pI2, pNeg, pAdd, pMul, pEq_int, pEq_bl, pEq_str, pEq_nm, pEq_nil, pIsN, pIx, pLen, pAbs, pMin, pMax, pDivmod, pInt, pList, pTuple, pSumA, pAll, pAny, pIn_lst, pIn_tup, pIsi, D.tyn, isiB, flatD, keyD, Kind.S, wipeE, eDict0_ap, eDict1_ap, pGet, nm, atomL_app, atI_0, atI_1, atI_2, atI_3, j1, j2, sizeLine_eq]
        · intro r hr
          rcases List.mem_append.mp hr with hr | hr
          · exact m1 r hr
          · rw [List.mem_singleton.mp hr]
            exact ⟨g2 _ (List.getElem_mem _), g2 _ (List.getElem_mem _)⟩
        · simp [m2]
        · simp
        · simp [wipeE])
  refine ⟨rs, p', g1, m1, by simpa using m2, ?_⟩
  have f2 := rg_nat n
  have f3 := rgOk_nat (n := n) (by omega)
  have f4 : eLc (.sub 2) (iSeq (eVar 2)) (fun b => (gTupE 2 (gsCons (gSet (.pr b) 5) (gsCons (gSet (.pr b) 6) gsNil)))) tYesF d_law_turned_2 [5, 6] [] (tuE p' n qs ns x4 none none) = some (.lst (rs.map ln), tuE p' n qs ns x4 none none) :=
    eLc_eq (E1 := tuE p' n qs ns x4 none none) (by simp [sl_eq, callD_ap, startE, sSeq_ap, sIf_ap, sSet_ap, sRet_ap, sRetN_ap, sDrop_ap, sAsg_ap, sPar2_ap, sFor_ap, sNext_ap, sSetIt_ap, sPairSet_ap, gSetIt_ap, eVar_ap, eC_ap, ePrim_ap, lCons_ap, lNil_ap, lRef_ap, eOwn_ap, eCall_ap, ioW, setIO, setD, ioOut, ioGet, toT_ap, toTr_ap, tfAnd_ap, tfOr_ap, tfNot_ap, tYesF_ap, eIf_ap, eAnd_ap, eOr_ap, eNot_ap, eMut_ap, pName_ap, pSub1_ap, hasP, hasT, tyD, storL, storable, getP, setP, opApp, opIns, opPop, opClear, opExt, opSet, putE, putV, freeze, frz1, newAll, allNew, Mode.frz, Mode.w, Mode.new, retOk, D.atom, D.atomL, D.flat, D.tru, D.node, D.items, D.isNon, gSet_ap, gsNil, gsCons, gTupE, gSeqE, bindN, putP, iSeq_ap, iRg_ap, iEnm_ap, rg1_ap, rg2_ap, eListRg_ap, oNone_ap, oSome_ap, eSlice_ap, pSlice, pTup_ap, pLst_ap, pI2, pNeg, pAdd, pMul, pEq_int, pEq_bl, pEq_str, pEq_nm, pEq_nil, pIsN, pIx, pLen, pAbs, pMin, pMax, pDivmod, pInt, pList, pTuple, pSumA, pAll, pAny, pIn_lst, pIn_tup, pIsi, D.tyn, isiB, flatD, keyD, Kind.S, wipeE, eDict0_ap, eDict1_ap, pGet, nm, atomL_app, atI_0, atI_1, atI_2, atI_3]; rfl) (by simpa [sl_eq, callD_ap, startE, sSeq_ap, sIf_ap, sSet_ap, sRet_ap, sRetN_ap, sDrop_ap, sAsg_ap, sPar2_ap, sFor_ap, sNext_ap, sSetIt_ap, sPairSet_ap, gSetIt_ap, eVar_ap, eC_ap, ePrim_ap, lCons_ap, lNil_ap, lRef_ap, eOwn_ap, eCall_ap, ioW, setIO, setD, ioOut, ioGet, toT_ap, toTr_ap, tfAnd_ap, tfOr_ap, tfNot_ap, tYesF_ap, eIf_ap, eAnd_ap, eOr_ap, eNot_ap, eMut_ap, pName_ap, pSub1_ap, hasP, hasT, tyD, storL, storable, getP, setP, opApp, opIns, opPop, opClear, opExt, opSet, putE, putV, freeze, frz1, newAll, allNew, Mode.frz, Mode.w, Mode.new, retOk, D.atom, D.atomL, D.flat, D.tru, D.node, D.items, D.isNon, gSet_ap, gsNil, gsCons, gTupE, gSeqE, bindN, putP, iSeq_ap, iRg_ap, iEnm_ap, rg1_ap, rg2_ap, eListRg_ap, oNone_ap, oSome_ap, eSlice_ap, pSlice, pTup_ap, pLst_ap, pI2, pNeg, pAdd, pMul, pEq_int, pEq_bl, pEq_str, pEq_nm, pEq_nil, pIsN, pIx, pLen, pAbs, pMin, pMax, pDivmod, pInt, pList, pTuple, pSumA, pAll, pAny, pIn_lst, pIn_tup, pIsi, D.tyn, isiB, flatD, keyD, Kind.S, wipeE, eDict0_ap, eDict1_ap, pGet, nm, atomL_app, atI_0, atI_1, atI_2, atI_3] using e2) (by simp [sizeLine_eq]; omega) (by simp [setM])
  simp [nm, tuE] at e1 f4
  simp [f_law_turned, d_law_turned, sl_eq, callD_ap, startE, sSeq_ap, sIf_ap, sSet_ap, sRet_ap, sRetN_ap, sDrop_ap, sAsg_ap, sPar2_ap, sFor_ap, sNext_ap, sSetIt_ap, sPairSet_ap, gSetIt_ap, eVar_ap, eC_ap, ePrim_ap, lCons_ap, lNil_ap, lRef_ap, eOwn_ap, eCall_ap, ioW, setIO, setD, ioOut, ioGet, toT_ap, toTr_ap, tfAnd_ap, tfOr_ap, tfNot_ap, tYesF_ap, eIf_ap, eAnd_ap, eOr_ap, eNot_ap, eMut_ap, pName_ap, pSub1_ap, hasP, hasT, tyD, storL, storable, getP, setP, opApp, opIns, opPop, opClear, opExt, opSet, putE, putV, freeze, frz1, newAll, allNew, Mode.frz, Mode.w, Mode.new, retOk, D.atom, D.atomL, D.flat, D.tru, D.node, D.items, D.isNon, gSet_ap, gsNil, gsCons, gTupE, gSeqE, bindN, putP, iSeq_ap, iRg_ap, iEnm_ap, rg1_ap, rg2_ap, eListRg_ap, oNone_ap, oSome_ap, eSlice_ap, pSlice, pTup_ap, pLst_ap, pI2, pNeg, pAdd, pMul, pEq_int, pEq_bl, pEq_str, pEq_nm, pEq_nil, pIsN, pIx, pLen, pAbs, pMin, pMax, pDivmod, pInt, pList, pTuple, pSumA, pAll, pAny, pIn_lst, pIn_tup, pIsi, D.tyn, isiB, flatD, keyD, Kind.S, wipeE, eDict0_ap, eDict1_ap, pGet, nm, atomL_app, atI_0, atI_1, atI_2, atI_3, f2, f3, e1, f4, sizeLine_eq, atomL_ln]
end VL
set_option maxHeartbeats 4000000
namespace VL
open PySem PySem.Spec PyProof.Rows L2
abbrev wbE (p : D) (w : Nat) (tn : Bool) (n : Nat) (qs : List (Nat × Nat)) (x5 : Option (Mode × D)) : Env := [some (.io, p), some (.own, nm w), some (.own, .bl tn), some (.own, nm n), some (.own, .lst (qs.map ln)), x5]
theorem pairs_lc {p : D} {w : Nat} {tn : Bool} {n : Nat} {qs : List (Nat × Nat)} (m : Nat) (hp : PotD p) (h1 : 2 ≤ n) (h2 : n ≤ 9) :
    ∃ (rs : List (Nat × Nat)) (p' : D), PotD p' ∧ (∀ q ∈ rs, q.1 < n ∧ q.2 < n) ∧ rs.length = m ∧ lcL (gSet (.pr true) 5) tYesF d_law_web_1 [5] ((List.range m).map nm) (wbE p w tn n qs none) = some (rs.map ln, wbE p' w tn n qs none) := by
  obtain ⟨ys, E', e2, p', rs, m1, m2, m3, rfl, rfl⟩ := lcL_inv (g := gSet (.pr true) 5) (t := tYesF) (f := d_law_web_1) (vs := [5]) (ds := (List.range m).map nm) (E := wbE p w tn n qs none)
    (fun i acc E => ∃ (p' : D) (rs : List (Nat × Nat)), PotD p' ∧ (∀ q ∈ rs, q.1 < n ∧ q.2 < n) ∧ rs.length = i ∧ acc = rs.map ln ∧ E = wbE p' w tn n qs none)
    ⟨p, [], hp, by simp, rfl, rfl, rfl⟩ (by
      rintro i d acc E hd ⟨p', rs, m1, m2, m3, rfl, rfl⟩
      obtain ⟨hi, rfl⟩ := rg_get hd
      obtain ⟨q, p1, k1, k2, k3, k4⟩ := pair_ok m1 h1 h2
      refine ⟨wbE p' w tn n qs (some (.own, nm i)), true, _, by simp [sl_eq, callD_ap, startE, sSeq_ap, sIf_ap, sSet_ap, sRet_ap, sRetN_ap, sDrop_ap, sAsg_ap, sPar2_ap, sFor_ap, sNext_ap, sSetIt_ap, sPairSet_ap, gSetIt_ap, eVar_ap, eC_ap, ePrim_ap, lCons_ap, lNil_ap, lRef_ap, eOwn_ap, eCall_ap, ioW, setIO, setD, ioOut, ioGet, toT_ap, toTr_ap, tfAnd_ap, tfOr_ap, tfNot_ap, tYesF_ap, eIf_ap, eAnd_ap, eOr_ap, eNot_ap, eMut_ap, pName_ap, pSub1_ap, hasP, hasT, tyD, storL, storable, getP, setP, opApp, opIns, opPop, opClear, opExt, opSet, putE, putV, freeze, frz1, newAll, allNew, Mode.frz, Mode.w, Mode.new, retOk, D.atom, D.atomL, D.flat, D.tru, D.node, D.items, D.isNon, gSet_ap, gsNil, gsCons, gTupE, gSeqE, bindN, putP, iSeq_ap, iRg_ap, iEnm_ap, rg1_ap, rg2_ap, eListRg_ap, oNone_ap, oSome_ap, eSlice_ap, pSlice, pTup_ap, pLst_ap, pI2, pNeg, pAdd, pMul, pEq_int, pEq_bl, pEq_str, pEq_nm, pEq_nil, pIsN, pIx, pLen, pAbs, pMin, pMax, pDivmod, pInt, pList, pTuple, pSumA, pAll, pAny, pIn_lst, pIn_tup, pIsi, D.tyn, isiB, flatD, keyD, Kind.S, wipeE, eDict0_ap, eDict1_ap, pGet, nm, atomL_app, atI_0, atI_1, atI_2, atI_3], rfl, fun z => (by cases z), fun _ => ⟨ln q, wbE p1 w tn n qs (some (.own, nm i)), ?_, p1, rs ++ [q], k1, ?_, ?_, ?_, ?_⟩⟩
      · simp [nm] at k4
        simp [d_law_web_1, sl_eq, callD_ap, startE, sSeq_ap, sIf_ap, sSet_ap, sRet_ap, sRetN_ap, sDrop_ap, sAsg_ap, sPar2_ap, sFor_ap, sNext_ap, sSetIt_ap, sPairSet_ap, gSetIt_ap, eVar_ap, eC_ap, ePrim_ap, lCons_ap, lNil_ap, lRef_ap, eOwn_ap, eCall_ap, ioW, setIO, setD, ioOut, ioGet, toT_ap, toTr_ap, tfAnd_ap, tfOr_ap, tfNot_ap, tYesF_ap, eIf_ap, eAnd_ap, eOr_ap, eNot_ap, eMut_ap, pName_ap, pSub1_ap, hasP, hasT, tyD, storL, storable, getP, setP, opApp, opIns, opPop, opClear, opExt, opSet, putE, putV, freeze, frz1, newAll, allNew, Mode.frz, Mode.w, Mode.new, retOk, D.atom, D.atomL, D.flat, D.tru, D.node, D.items, D.isNon, gSet_ap, gsNil, gsCons, gTupE, gSeqE, bindN, putP, iSeq_ap, iRg_ap, iEnm_ap, rg1_ap, rg2_ap, eListRg_ap, oNone_ap, oSome_ap, eSlice_ap, pSlice, pTup_ap, pLst_ap, pI2, pNeg, pAdd, pMul, pEq_int, pEq_bl, pEq_str, pEq_nm, pEq_nil, pIsN, pIx, pLen, pAbs, pMin, pMax, pDivmod, pInt, pList, pTuple, pSumA, pAll, pAny, pIn_lst, pIn_tup, pIsi, D.tyn, isiB, flatD, keyD, Kind.S, wipeE, eDict0_ap, eDict1_ap, pGet, nm, atomL_app, atI_0, atI_1, atI_2, atI_3, k4]
      · intro r hr
        rcases List.mem_append.mp hr with hr | hr
        · exact m2 r hr
        · rw [List.mem_singleton.mp hr]
          exact ⟨k2, k3⟩
      · simp [m3]
      · simp
      · simp [wipeE])
  exact ⟨rs, p', m1, m2, by simpa using m3, e2⟩
theorem pairs_eLc {src : IF} {E : Env} {p : D} {w : Nat} {tn : Bool} {n : Nat} {qs : List (Nat × Nat)} {m : Nat} (hs : src E = some ((List.range m).map nm, wbE p w tn n qs none)) (hm : m ≤ 1000) (hp : PotD p) (h1 : 2 ≤ n) (h2 : n ≤ 9) :
    ∃ (rs : List (Nat × Nat)) (p' : D), PotD p' ∧ (∀ q ∈ rs, q.1 < n ∧ q.2 < n) ∧ rs.length = m ∧ eLc .own src (fun b => (gSet (.pr b) 5)) tYesF d_law_web_1 [5] [0] E = some (.lst (rs.map ln), wbE p' w tn n qs none) := by
  obtain ⟨rs, p', k1, k2, k3, k4⟩ := pairs_lc (w := w) (tn := tn) (qs := qs) m hp h1 h2
  exact ⟨rs, p', k1, k2, k3, eLc_eq hs (by simpa [sl_eq, callD_ap, startE, sSeq_ap, sIf_ap, sSet_ap, sRet_ap, sRetN_ap, sDrop_ap, sAsg_ap, sPar2_ap, sFor_ap, sNext_ap, sSetIt_ap, sPairSet_ap, gSetIt_ap, eVar_ap, eC_ap, ePrim_ap, lCons_ap, lNil_ap, lRef_ap, eOwn_ap, eCall_ap, ioW, setIO, setD, ioOut, ioGet, toT_ap, toTr_ap, tfAnd_ap, tfOr_ap, tfNot_ap, tYesF_ap, eIf_ap, eAnd_ap, eOr_ap, eNot_ap, eMut_ap, pName_ap, pSub1_ap, hasP, hasT, tyD, storL, storable, getP, setP, opApp, opIns, opPop, opClear, opExt, opSet, putE, putV, freeze, frz1, newAll, allNew, Mode.frz, Mode.w, Mode.new, retOk, D.atom, D.atomL, D.flat, D.tru, D.node, D.items, D.isNon, gSet_ap, gsNil, gsCons, gTupE, gSeqE, bindN, putP, iSeq_ap, iRg_ap, iEnm_ap, rg1_ap, rg2_ap, eListRg_ap, oNone_ap, oSome_ap, eSlice_ap, pSlice, pTup_ap, pLst_ap, pI2, pNeg, pAdd, pMul, pEq_int, pEq_bl, pEq_str, pEq_nm, pEq_nil, pIsN, pIx, pLen, pAbs, pMin, pMax, pDivmod, pInt, pList, pTuple, pSumA, pAll, pAny, pIn_lst, pIn_tup, pIsi, D.tyn, isiB, flatD, keyD, Kind.S, wipeE, eDict0_ap, eDict1_ap, pGet, nm, atomL_app, atI_0, atI_1, atI_2, atI_3] using k4) (by simp [sizeLine_eq]; omega) (by simp [setM])⟩
theorem ix4 {c : Nat} (a b d e : Nat) (h : c < 4) : ∃ v : Nat, atI [nm a, nm b, nm d, nm e] (c : Int) = some (nm v) ∧ (v = a ∨ v = b ∨ v = d ∨ v = e) := by
  rw [atI_nat]
  rcases (by omega : c = 0 ∨ c = 1 ∨ c = 2 ∨ c = 3) with rfl | rfl | rfl | rfl
  · exact ⟨a, rfl, .inl rfl⟩
  · exact ⟨b, rfl, .inr (.inl rfl)⟩
  · exact ⟨d, rfl, .inr (.inr (.inl rfl))⟩
  · exact ⟨e, rfl, .inr (.inr (.inr rfl))⟩
def WbI (E : Env) : Prop := ∃ p w tn n qs, PotD p ∧ 1 ≤ n ∧ n ≤ 9 ∧ (∀ q ∈ qs, q.1 < n ∧ q.2 < n) ∧ qs.length ≤ 64 ∧ E = wbE p w tn n qs none
theorem cut_60 (ds : List D) : cutD ds none (some 60) = ds.take 60 := by
  have h := HT.sIx_nat ds.length ds.length 60
  have h0 := HT.sIx_none ds.length 0
  unfold cutD
  rw [h0]
  rw [show HT.sIx ds.length ds.length (some (60 : Int)) = min 60 ds.length from h]
  rw [List.drop_zero, Nat.sub_zero]
  rcases Nat.le_total 60 ds.length with z | z
  · rw [Nat.min_eq_left z]
  · rw [Nat.min_eq_right z, List.take_of_length_le (Nat.le_refl _), List.take_of_length_le z]
theorem web_ok {p : D} (hp : PotD p) : ∃ (n : Nat) (qs : List (Nat × Nat)) (p' : D), PotD p' ∧ 1 ≤ n ∧ n ≤ 9 ∧ qs.length ≤ 60 ∧ (∀ q ∈ qs, q.1 < n ∧ q.2 < n) ∧ f_law_web [p] = some (.tup [nm n, .lst (qs.map ln)], [p']) := by
  have main : ∃ r, d_law_web [some (.io, p), none, none, none, none, none] = some r ∧ ∃ (n : Nat) (qs : List (Nat × Nat)) (p' : D) (E : Env), PotD p' ∧ 1 ≤ n ∧ n ≤ 9 ∧ qs.length ≤ 60 ∧ (∀ q ∈ qs, q.1 < n ∧ q.2 < n) ∧ ioGet E 0 = some p' ∧ r = .rt (.tup [nm n, .lst (qs.map ln)]) E := by
    unfold d_law_web
    obtain ⟨w, p1, hp1, hw, e1⟩ := take_ok hp (m := 4) (by omega) (by omega)
    obtain ⟨t, p2, hp2, ht, e2⟩ := take_ok hp1 (m := 2) (by omega) (by omega)
    obtain ⟨c, p3, hp3, hc, e3⟩ := take_ok hp2 (m := 4) (by omega) (by omega)
    obtain ⟨v, hv, hv2⟩ := ix4 (c := c) 6 6 6 9 (by omega)
    obtain ⟨n, p4, hp4, hn, e4⟩ := take_ok hp3 (m := v) (by omega) (by omega)
    refine sSeq_inv (fun E => E = [some (.io, p1), some (.own, nm w), none, none, none, none]) ⟨_, by simp [sl_eq, callD_ap, startE, sSeq_ap, sIf_ap, sSet_ap, sRet_ap, sRetN_ap, sDrop_ap, sAsg_ap, sPar2_ap, sFor_ap, sNext_ap, sSetIt_ap, sPairSet_ap, gSetIt_ap, eVar_ap, eC_ap, ePrim_ap, lCons_ap, lNil_ap, lRef_ap, eOwn_ap, eCall_ap, ioW, setIO, setD, ioOut, ioGet, toT_ap, toTr_ap, tfAnd_ap, tfOr_ap, tfNot_ap, tYesF_ap, eIf_ap, eAnd_ap, eOr_ap, eNot_ap, eMut_ap, pName_ap, pSub1_ap, hasP, hasT, tyD, storL, storable, getP, setP, opApp, opIns, opPop, opClear, opExt, opSet, putE, putV, freeze, frz1, newAll, allNew, Mode.frz, Mode.w, Mode.new, retOk, D.atom, D.atomL, D.flat, D.tru, D.node, D.items, D.isNon, gSet_ap, gsNil, gsCons, gTupE, gSeqE, bindN, putP, iSeq_ap, iRg_ap, iEnm_ap, rg1_ap, rg2_ap, eListRg_ap, oNone_ap, oSome_ap, eSlice_ap, pSlice, pTup_ap, pLst_ap, pI2, pNeg, pAdd, pMul, pEq_int, pEq_bl, pEq_str, pEq_nm, pEq_nil, pIsN, pIx, pLen, pAbs, pMin, pMax, pDivmod, pInt, pList, pTuple, pSumA, pAll, pAny, pIn_lst, pIn_tup, pIsi, D.tyn, isiB, flatD, keyD, Kind.S, wipeE, eDict0_ap, eDict1_ap, pGet, nm, atomL_app, atI_0, atI_1, atI_2, atI_3, e1] <;> rfl, rfl⟩ ?_
    rintro _ rfl
    refine sSeq_inv (fun E => E = [some (.io, p2), some (.own, nm w), some (.own, .bl (decide ((t : Int) = 1))), none, none, none]) ⟨_, by simp [sl_eq, callD_ap, startE, sSeq_ap, sIf_ap, sSet_ap, sRet_ap, sRetN_ap, sDrop_ap, sAsg_ap, sPar2_ap, sFor_ap, sNext_ap, sSetIt_ap, sPairSet_ap, gSetIt_ap, eVar_ap, eC_ap, ePrim_ap, lCons_ap, lNil_ap, lRef_ap, eOwn_ap, eCall_ap, ioW, setIO, setD, ioOut, ioGet, toT_ap, toTr_ap, tfAnd_ap, tfOr_ap, tfNot_ap, tYesF_ap, eIf_ap, eAnd_ap, eOr_ap, eNot_ap, eMut_ap, pName_ap, pSub1_ap, hasP, hasT, tyD, storL, storable, getP, setP, opApp, opIns, opPop, opClear, opExt, opSet, putE, putV, freeze, frz1, newAll, allNew, Mode.frz, Mode.w, Mode.new, retOk, D.atom, D.atomL, D.flat, D.tru, D.node, D.items, D.isNon, gSet_ap, gsNil, gsCons, gTupE, gSeqE, bindN, putP, iSeq_ap, iRg_ap, iEnm_ap, rg1_ap, rg2_ap, eListRg_ap, oNone_ap, oSome_ap, eSlice_ap, pSlice, pTup_ap, pLst_ap, pI2, pNeg, pAdd, pMul, pEq_int, pEq_bl, pEq_str, pEq_nm, pEq_nil, pIsN, pIx, pLen, pAbs, pMin, pMax, pDivmod, pInt, pList, pTuple, pSumA, pAll, pAny, pIn_lst, pIn_tup, pIsi, D.tyn, isiB, flatD, keyD, Kind.S, wipeE, eDict0_ap, eDict1_ap, pGet, nm, atomL_app, atI_0, atI_1, atI_2, atI_3, e2] <;> rfl, rfl⟩ ?_
    rintro _ rfl
    refine sSeq_inv (fun E => E = [some (.io, p4), some (.own, nm w), some (.own, .bl (decide ((t : Int) = 1))), some (.own, nm (1 + n)), none, none]) ⟨_, ?_, rfl⟩ ?_
    · simp [nm] at hv
      simp [sl_eq, callD_ap, startE, sSeq_ap, sIf_ap, sSet_ap, sRet_ap, sRetN_ap, sDrop_ap, sAsg_ap, sPar2_ap, sFor_ap, sNext_ap, sSetIt_ap, sPairSet_ap, gSetIt_ap, eVar_ap, eC_ap, ePrim_ap, lCons_ap, lNil_ap, lRef_ap, eOwn_ap, eCall_ap, ioW, setIO, setD, ioOut, ioGet, toT_ap, toTr_ap, tfAnd_ap, tfOr_ap, tfNot_ap, tYesF_ap, eIf_ap, eAnd_ap, eOr_ap, eNot_ap, eMut_ap, pName_ap, pSub1_ap, hasP, hasT, tyD, storL, storable, getP, setP, opApp, opIns, opPop, opClear, opExt, opSet, putE, putV, freeze, frz1, newAll, allNew, Mode.frz, Mode.w, Mode.new, retOk, D.atom, D.atomL, D.flat, D.tru, D.node, D.items, D.isNon, gSet_ap, gsNil, gsCons, gTupE, gSeqE, bindN, putP, iSeq_ap, iRg_ap, iEnm_ap, rg1_ap, rg2_ap, eListRg_ap, oNone_ap, oSome_ap, eSlice_ap, pSlice, pTup_ap, pLst_ap, pI2, pNeg, pAdd, pMul, pEq_int, pEq_bl, pEq_str, pEq_nm, pEq_nil, pIsN, pIx, pLen, pAbs, pMin, pMax, pDivmod, pInt, pList, pTuple, pSumA, pAll, pAny, pIn_lst, pIn_tup, pIsi, D.tyn, isiB, flatD, keyD, Kind.S, wipeE, eDict0_ap, eDict1_ap, pGet, nm, atomL_app, atI_0, atI_1, atI_2, atI_3, e3, hv, e4, sizeLine_eq]
    rintro _ rfl
    refine sSeq_inv WbI ⟨wbE p4 w (decide ((t : Int) = 1)) (1 + n) [] none, by simp [sl_eq, callD_ap, startE, sSeq_ap, sIf_ap, sSet_ap, sRet_ap, sRetN_ap, sDrop_ap, sAsg_ap, sPar2_ap, sFor_ap, sNext_ap, sSetIt_ap, sPairSet_ap, gSetIt_ap, eVar_ap, eC_ap, ePrim_ap, lCons_ap, lNil_ap, lRef_ap, eOwn_ap, eCall_ap, ioW, setIO, setD, ioOut, ioGet, toT_ap, toTr_ap, tfAnd_ap, tfOr_ap, tfNot_ap, tYesF_ap, eIf_ap, eAnd_ap, eOr_ap, eNot_ap, eMut_ap, pName_ap, pSub1_ap, hasP, hasT, tyD, storL, storable, getP, setP, opApp, opIns, opPop, opClear, opExt, opSet, putE, putV, freeze, frz1, newAll, allNew, Mode.frz, Mode.w, Mode.new, retOk, D.atom, D.atomL, D.flat, D.tru, D.node, D.items, D.isNon, gSet_ap, gsNil, gsCons, gTupE, gSeqE, bindN, putP, iSeq_ap, iRg_ap, iEnm_ap, rg1_ap, rg2_ap, eListRg_ap, oNone_ap, oSome_ap, eSlice_ap, pSlice, pTup_ap, pLst_ap, pI2, pNeg, pAdd, pMul, pEq_int, pEq_bl, pEq_str, pEq_nm, pEq_nil, pIsN, pIx, pLen, pAbs, pMin, pMax, pDivmod, pInt, pList, pTuple, pSumA, pAll, pAny, pIn_lst, pIn_tup, pIsi, D.tyn, isiB, flatD, keyD, Kind.S, wipeE, eDict0_ap, eDict1_ap, pGet, nm, atomL_app, atI_0, atI_1, atI_2, atI_3, sizeLine_eq], p4, w, _, 1 + n, [], hp4, by omega, by omega, by simp, by simp, rfl⟩ ?_
    clear hp4 hn e4 e1 e2 e3 hv hv2 hc ht hw hp3 hp2 hp1
    clear p1 p2 p3 p4 n v c t w
    rintro _ ⟨p, w, tn, n, qs, hp, n1, n2, hq, hl, rfl⟩
    -- any lanes
    refine sSeq_inv WbI ?_ ?_
    · by_cases hc : w = 0 ∧ 1 < n
      · obtain ⟨rfl, hn1⟩ := hc
        obtain ⟨c, p3, hp3, hc4, e3⟩ := take_ok hp (m := 4) (by omega) (by omega)
        obtain ⟨v, hv, hv2⟩ := ix4 (c := c) 13 13 25 61 (by omega)
        obtain ⟨m, p4, hp4, hm, e4⟩ := take_ok hp3 (m := v) (by omega) (by omega)
        have f2 := rg_nat m
        have f3 := rgOk_nat (n := m) (by omega)
        obtain ⟨rs, p', k1, k2, k3, k4⟩ := pairs_eLc (E := wbE p 0 tn n qs none) (src := (iRg (rg1 (eCall f_law_take [0] (lRef 0 (lCons (ePrim pIx (lCons (ePrim pLst (lCons (eC (.int 13)) (lCons (eC (.int 13)) (lCons (eC (.int 25)) (lCons (eC (.int 61)) lNil))))) (lCons (eCall f_law_take [0] (lCons (eVar 0) (lCons (eC (.int 4)) lNil))) lNil))) lNil)))))) (p := p4) (w := 0) (tn := tn) (n := n) (qs := qs) (m := m) (by
          simp [nm] at hv
          simp [sl_eq, callD_ap, startE, sSeq_ap, sIf_ap, sSet_ap, sRet_ap, sRetN_ap, sDrop_ap, sAsg_ap, sPar2_ap, sFor_ap, sNext_ap, sSetIt_ap, sPairSet_ap, gSetIt_ap, eVar_ap, eC_ap, ePrim_ap, lCons_ap, lNil_ap, lRef_ap, eOwn_ap, eCall_ap, ioW, setIO, setD, ioOut, ioGet, toT_ap, toTr_ap, tfAnd_ap, tfOr_ap, tfNot_ap, tYesF_ap, eIf_ap, eAnd_ap, eOr_ap, eNot_ap, eMut_ap, pName_ap, pSub1_ap, hasP, hasT, tyD, storL, storable, getP, setP, opApp, opIns, opPop, opClear, opExt, opSet, putE, putV, freeze, frz1, newAll, allNew, Mode.frz, Mode.w, Mode.new, retOk, D.atom, D.atomL, D.flat, D.tru, D.node, D.items, D.isNon, gSet_ap, gsNil, gsCons, gTupE, gSeqE, bindN, putP, iSeq_ap, iRg_ap, iEnm_ap, rg1_ap, rg2_ap, eListRg_ap, oNone_ap, oSome_ap, eSlice_ap, pSlice, pTup_ap, pLst_ap, pI2, pNeg, pAdd, pMul, pEq_int, pEq_bl, pEq_str, pEq_nm, pEq_nil, pIsN, pIx, pLen, pAbs, pMin, pMax, pDivmod, pInt, pList, pTuple, pSumA, pAll, pAny, pIn_lst, pIn_tup, pIsi, D.tyn, isiB, flatD, keyD, Kind.S, wipeE, eDict0_ap, eDict1_ap, pGet, nm, atomL_app, atI_0, atI_1, atI_2, atI_3, e3, hv, e4, sizeLine_eq, f2, f3]) (by omega) hp4 (by omega) n2
        refine ⟨wbE p' 0 tn n rs none, ?_, p', 0, tn, n, rs, k1, n1, n2, k2, by omega, rfl⟩
        have c2 : (1 : Int) < (n : Int) := by omega
        simp [sl_eq, callD_ap, startE, sSeq_ap, sIf_ap, sSet_ap, sRet_ap, sRetN_ap, sDrop_ap, sAsg_ap, sPar2_ap, sFor_ap, sNext_ap, sSetIt_ap, sPairSet_ap, gSetIt_ap, eVar_ap, eC_ap, ePrim_ap, lCons_ap, lNil_ap, lRef_ap, eOwn_ap, eCall_ap, ioW, setIO, setD, ioOut, ioGet, toT_ap, toTr_ap, tfAnd_ap, tfOr_ap, tfNot_ap, tYesF_ap, eIf_ap, eAnd_ap, eOr_ap, eNot_ap, eMut_ap, pName_ap, pSub1_ap, hasP, hasT, tyD, storL, storable, getP, setP, opApp, opIns, opPop, opClear, opExt, opSet, putE, putV, freeze, frz1, newAll, allNew, Mode.frz, Mode.w, Mode.new, retOk, D.atom, D.atomL, D.flat, D.tru, D.node, D.items, D.isNon, gSet_ap, gsNil, gsCons, gTupE, gSeqE, bindN, putP, iSeq_ap, iRg_ap, iEnm_ap, rg1_ap, rg2_ap, eListRg_ap, oNone_ap, oSome_ap, eSlice_ap, pSlice, pTup_ap, pLst_ap, pI2, pNeg, pAdd, pMul, pEq_int, pEq_bl, pEq_str, pEq_nm, pEq_nil, pIsN, pIx, pLen, pAbs, pMin, pMax, pDivmod, pInt, pList, pTuple, pSumA, pAll, pAny, pIn_lst, pIn_tup, pIsi, D.tyn, isiB, flatD, keyD, Kind.S, wipeE, eDict0_ap, eDict1_ap, pGet, nm, atomL_app, atI_0, atI_1, atI_2, atI_3, c2, k4]
      · refine ⟨wbE p w tn n qs none, ?_, p, w, tn, n, qs, hp, n1, n2, hq, hl, rfl⟩
        by_cases hz : w = 0
        · have c1 : (w : Int) = 0 := by omega
          have c2 : ¬ (1 : Int) < (n : Int) := fun z => hc ⟨hz, by omega⟩
          simp [sl_eq, callD_ap, startE, sSeq_ap, sIf_ap, sSet_ap, sRet_ap, sRetN_ap, sDrop_ap, sAsg_ap, sPar2_ap, sFor_ap, sNext_ap, sSetIt_ap, sPairSet_ap, gSetIt_ap, eVar_ap, eC_ap, ePrim_ap, lCons_ap, lNil_ap, lRef_ap, eOwn_ap, eCall_ap, ioW, setIO, setD, ioOut, ioGet, toT_ap, toTr_ap, tfAnd_ap, tfOr_ap, tfNot_ap, tYesF_ap, eIf_ap, eAnd_ap, eOr_ap, eNot_ap, eMut_ap, pName_ap, pSub1_ap, hasP, hasT, tyD, storL, storable, getP, setP, opApp, opIns, opPop, opClear, opExt, opSet, putE, putV, freeze, frz1, newAll, allNew, Mode.frz, Mode.w, Mode.new, retOk, D.atom, D.atomL, D.flat, D.tru, D.node, D.items, D.isNon, gSet_ap, gsNil, gsCons, gTupE, gSeqE, bindN, putP, iSeq_ap, iRg_ap, iEnm_ap, rg1_ap, rg2_ap, eListRg_ap, oNone_ap, oSome_ap, eSlice_ap, pSlice, pTup_ap, pLst_ap, pI2, pNeg, pAdd, pMul, pEq_int, pEq_bl, pEq_str, pEq_nm, pEq_nil, pIsN, pIx, pLen, pAbs, pMin, pMax, pDivmod, pInt, pList, pTuple, pSumA, pAll, pAny, pIn_lst, pIn_tup, pIsi, D.tyn, isiB, flatD, keyD, Kind.S, wipeE, eDict0_ap, eDict1_ap, pGet, nm, atomL_app, atI_0, atI_1, atI_2, atI_3, c1, c2, hz]
        · have c1 : ¬ (w : Int) = 0 := by omega
          simp [sl_eq, callD_ap, startE, sSeq_ap, sIf_ap, sSet_ap, sRet_ap, sRetN_ap, sDrop_ap, sAsg_ap, sPar2_ap, sFor_ap, sNext_ap, sSetIt_ap, sPairSet_ap, gSetIt_ap, eVar_ap, eC_ap, ePrim_ap, lCons_ap, lNil_ap, lRef_ap, eOwn_ap, eCall_ap, ioW, setIO, setD, ioOut, ioGet, toT_ap, toTr_ap, tfAnd_ap, tfOr_ap, tfNot_ap, tYesF_ap, eIf_ap, eAnd_ap, eOr_ap, eNot_ap, eMut_ap, pName_ap, pSub1_ap, hasP, hasT, tyD, storL, storable, getP, setP, opApp, opIns, opPop, opClear, opExt, opSet, putE, putV, freeze, frz1, newAll, allNew, Mode.frz, Mode.w, Mode.new, retOk, D.atom, D.atomL, D.flat, D.tru, D.node, D.items, D.isNon, gSet_ap, gsNil, gsCons, gTupE, gSeqE, bindN, putP, iSeq_ap, iRg_ap, iEnm_ap, rg1_ap, rg2_ap, eListRg_ap, oNone_ap, oSome_ap, eSlice_ap, pSlice, pTup_ap, pLst_ap, pI2, pNeg, pAdd, pMul, pEq_int, pEq_bl, pEq_str, pEq_nm, pEq_nil, pIsN, pIx, pLen, pAbs, pMin, pMax, pDivmod, pInt, pList, pTuple, pSumA, pAll, pAny, pIn_lst, pIn_tup, pIsi, D.tyn, isiB, flatD, keyD, Kind.S, wipeE, eDict0_ap, eDict1_ap, pGet, nm, atomL_app, atI_0, atI_1, atI_2, atI_3, c1, hz]
    clear hq hl hp
    clear p qs w n1 n2 n tn
    rintro _ ⟨p, w, tn, n, qs, hp, n1, n2, hq, hl, rfl⟩
    -- trees laid together
    refine sSeq_inv WbI ?_ ?_
    · by_cases hc : w = 1 ∧ 1 < n
      · obtain ⟨rfl, hn1⟩ := hc
        obtain ⟨r, p3, hp3, hr, e3⟩ := take_ok hp (m := 3) (by omega) (by omega)
        obtain ⟨qs', p4, hp4, hq', hl', e4⟩ := tied_ok (lo := 0) (hi := n) (r := r + 1) hp3 (by omega) n2 (by omega)
        obtain ⟨z, p5, hp5, hz, e5⟩ := take_ok hp4 (m := 3) (by omega) (by omega)
        have b1 : (r + 1) * (n - (0 + 1)) ≤ 3 * 8 := Nat.mul_le_mul (by omega) (by omega)
        have b2 : 1 * 1 ≤ (r + 1) * (n - (0 + 1)) := Nat.mul_le_mul (by omega) (by omega)
        have c2 : (1 : Int) < (n : Int) := by omega
        -- one taken out, or none
        have mid : ∃ qs2 p6, PotD p6 ∧ (∀ q ∈ qs2, q.1 < n ∧ q.2 < n) ∧ qs2.length ≤ 24 ∧ sIf (toT (ePrim (pEq false) (lCons (eCall f_law_take [0] (lCons (eVar 0) (lCons (eC (.int 3)) lNil))) (lCons (eC (.int 0)) lNil)))) (sDrop (eMut "list" 4 (pName 4) [.own] (lCons (eCall f_law_take [0] (lCons (eVar 0) (lCons (ePrim pLen (lCons (eVar 4) lNil)) lNil))) lNil) opPop)) sNext (wbE p4 1 tn n qs' none) = some (.nx (wbE p6 1 tn n qs2 none)) := by
          by_cases hz0 : z = 0
          · subst hz0
            obtain ⟨y, p6, hp6, hy, e6⟩ := take_ok hp5 (m := qs'.length) (by omega) (by omega)
            refine ⟨qs'.eraseIdx y, p6, hp6, fun q hq => hq' q (List.mem_of_mem_eraseIdx hq), ?_, ?_⟩
            · have := List.length_eraseIdx_le qs' y
              omega
            · have hy' : y < qs'.length := by omega
              have s1 : seqIndex? (y : Int) qs'.length = some y := by
                unfold seqIndex?
                have hn : ¬ (y : Int) < 0 := by omega
                have hp : (0 : Int) ≤ (y : Int) := by omega
                simp [hn, hp, hy']
              have s2 : -9223372036854775808 ≤ (y : Int) ∧ (y : Int) < 9223372036854775808 := by omega
              simp [sl_eq, callD_ap, startE, sSeq_ap, sIf_ap, sSet_ap, sRet_ap, sRetN_ap, sDrop_ap, sAsg_ap, sPar2_ap, sFor_ap, sNext_ap, sSetIt_ap, sPairSet_ap, gSetIt_ap, eVar_ap, eC_ap, ePrim_ap, lCons_ap, lNil_ap, lRef_ap, eOwn_ap, eCall_ap, ioW, setIO, setD, ioOut, ioGet, toT_ap, toTr_ap, tfAnd_ap, tfOr_ap, tfNot_ap, tYesF_ap, eIf_ap, eAnd_ap, eOr_ap, eNot_ap, eMut_ap, pName_ap, pSub1_ap, hasP, hasT, tyD, storL, storable, getP, setP, opApp, opIns, opPop, opClear, opExt, opSet, putE, putV, freeze, frz1, newAll, allNew, Mode.frz, Mode.w, Mode.new, retOk, D.atom, D.atomL, D.flat, D.tru, D.node, D.items, D.isNon, gSet_ap, gsNil, gsCons, gTupE, gSeqE, bindN, putP, iSeq_ap, iRg_ap, iEnm_ap, rg1_ap, rg2_ap, eListRg_ap, oNone_ap, oSome_ap, eSlice_ap, pSlice, pTup_ap, pLst_ap, pI2, pNeg, pAdd, pMul, pEq_int, pEq_bl, pEq_str, pEq_nm, pEq_nil, pIsN, pIx, pLen, pAbs, pMin, pMax, pDivmod, pInt, pList, pTuple, pSumA, pAll, pAny, pIn_lst, pIn_tup, pIsi, D.tyn, isiB, flatD, keyD, Kind.S, wipeE, eDict0_ap, eDict1_ap, pGet, nm, atomL_app, atI_0, atI_1, atI_2, atI_3, e5, e6, s1, s2, hy', map_erase]
          · refine ⟨qs', p5, hp5, hq', by omega, ?_⟩
            simp [sl_eq, callD_ap, startE, sSeq_ap, sIf_ap, sSet_ap, sRet_ap, sRetN_ap, sDrop_ap, sAsg_ap, sPar2_ap, sFor_ap, sNext_ap, sSetIt_ap, sPairSet_ap, gSetIt_ap, eVar_ap, eC_ap, ePrim_ap, lCons_ap, lNil_ap, lRef_ap, eOwn_ap, eCall_ap, ioW, setIO, setD, ioOut, ioGet, toT_ap, toTr_ap, tfAnd_ap, tfOr_ap, tfNot_ap, tYesF_ap, eIf_ap, eAnd_ap, eOr_ap, eNot_ap, eMut_ap, pName_ap, pSub1_ap, hasP, hasT, tyD, storL, storable, getP, setP, opApp, opIns, opPop, opClear, opExt, opSet, putE, putV, freeze, frz1, newAll, allNew, Mode.frz, Mode.w, Mode.new, retOk, D.atom, D.atomL, D.flat, D.tru, D.node, D.items, D.isNon, gSet_ap, gsNil, gsCons, gTupE, gSeqE, bindN, putP, iSeq_ap, iRg_ap, iEnm_ap, rg1_ap, rg2_ap, eListRg_ap, oNone_ap, oSome_ap, eSlice_ap, pSlice, pTup_ap, pLst_ap, pI2, pNeg, pAdd, pMul, pEq_int, pEq_bl, pEq_str, pEq_nm, pEq_nil, pIsN, pIx, pLen, pAbs, pMin, pMax, pDivmod, pInt, pList, pTuple, pSumA, pAll, pAny, pIn_lst, pIn_tup, pIsi, D.tyn, isiB, flatD, keyD, Kind.S, wipeE, eDict0_ap, eDict1_ap, pGet, nm, atomL_app, atI_0, atI_1, atI_2, atI_3, e5, hz0]
        obtain ⟨qs2, p6, hp6, hq2, hl2, e6⟩ := mid
        obtain ⟨m, p7, hp7, hm, e7⟩ := take_ok hp6 (m := 4) (by omega) (by omega)
        have f2 := rg_nat m
        have f3 := rgOk_nat (n := m) (by omega)
        obtain ⟨rs, p', k1, k2, k3, k4⟩ := pairs_eLc (E := wbE p6 1 tn n qs2 none) (src := iRg (rg1 (eCall f_law_take [0] (lCons (eVar 0) (lCons (eC (.int 4)) lNil))))) (p := p7) (w := 1) (tn := tn) (n := n) (qs := qs2) (m := m) (by
          simp [sl_eq, callD_ap, startE, sSeq_ap, sIf_ap, sSet_ap, sRet_ap, sRetN_ap, sDrop_ap, sAsg_ap, sPar2_ap, sFor_ap, sNext_ap, sSetIt_ap, sPairSet_ap, gSetIt_ap, eVar_ap, eC_ap, ePrim_ap, lCons_ap, lNil_ap, lRef_ap, eOwn_ap, eCall_ap, ioW, setIO, setD, ioOut, ioGet, toT_ap, toTr_ap, tfAnd_ap, tfOr_ap, tfNot_ap, tYesF_ap, eIf_ap, eAnd_ap, eOr_ap, eNot_ap, eMut_ap, pName_ap, pSub1_ap, hasP, hasT, tyD, storL, storable, getP, setP, opApp, opIns, opPop, opClear, opExt, opSet, putE, putV, freeze, frz1, newAll, allNew, Mode.frz, Mode.w, Mode.new, retOk, D.atom, D.atomL, D.flat, D.tru, D.node, D.items, D.isNon, gSet_ap, gsNil, gsCons, gTupE, gSeqE, bindN, putP, iSeq_ap, iRg_ap, iEnm_ap, rg1_ap, rg2_ap, eListRg_ap, oNone_ap, oSome_ap, eSlice_ap, pSlice, pTup_ap, pLst_ap, pI2, pNeg, pAdd, pMul, pEq_int, pEq_bl, pEq_str, pEq_nm, pEq_nil, pIsN, pIx, pLen, pAbs, pMin, pMax, pDivmod, pInt, pList, pTuple, pSumA, pAll, pAny, pIn_lst, pIn_tup, pIsi, D.tyn, isiB, flatD, keyD, Kind.S, wipeE, eDict0_ap, eDict1_ap, pGet, nm, atomL_app, atI_0, atI_1, atI_2, atI_3, e7, f2, f3]) (by omega) hp7 (by omega) n2
        have k5 : eLc .own (iRg (rg1 (eCall f_law_take [0] (lCons (eVar 0) (lCons (eC (.int 4)) lNil))))) (fun b => (gSet (.pr b) 5)) tYesF d_law_web_2 [5] [0] (wbE p6 1 tn n qs2 none) = some (.lst (rs.map ln), wbE p' 1 tn n qs2 none) := k4
        refine ⟨wbE p' 1 tn n (qs2 ++ rs) none, ?_, p', 1, tn, n, qs2 ++ rs, k1, n1, n2, fun q hq => ?_, by rw [List.length_append]; omega, rfl⟩
        · have f5 : qs2.length + rs.length ≤ 16777216 := by omega
          simp [nm] at e4
          have g1 : sSet 4 .own (eCall f_law_tied [0] (lRef 0 (lCons (eC (.int 0)) (lCons (eVar 3) (lCons (ePrim pAdd (lCons (eC (.int 1)) (lCons (eCall f_law_take [0] (lCons (eVar 0) (lCons (eC (.int 3)) lNil))) lNil))) lNil))))) (wbE p 1 tn n qs none) = some (.nx (wbE p4 1 tn n qs' none)) := by
            simp [sl_eq, callD_ap, startE, sSeq_ap, sIf_ap, sSet_ap, sRet_ap, sRetN_ap, sDrop_ap, sAsg_ap, sPar2_ap, sFor_ap, sNext_ap, sSetIt_ap, sPairSet_ap, gSetIt_ap, eVar_ap, eC_ap, ePrim_ap, lCons_ap, lNil_ap, lRef_ap, eOwn_ap, eCall_ap, ioW, setIO, setD, ioOut, ioGet, toT_ap, toTr_ap, tfAnd_ap, tfOr_ap, tfNot_ap, tYesF_ap, eIf_ap, eAnd_ap, eOr_ap, eNot_ap, eMut_ap, pName_ap, pSub1_ap, hasP, hasT, tyD, storL, storable, getP, setP, opApp, opIns, opPop, opClear, opExt, opSet, putE, putV, freeze, frz1, newAll, allNew, Mode.frz, Mode.w, Mode.new, retOk, D.atom, D.atomL, D.flat, D.tru, D.node, D.items, D.isNon, gSet_ap, gsNil, gsCons, gTupE, gSeqE, bindN, putP, iSeq_ap, iRg_ap, iEnm_ap, rg1_ap, rg2_ap, eListRg_ap, oNone_ap, oSome_ap, eSlice_ap, pSlice, pTup_ap, pLst_ap, pI2, pNeg, pAdd, pMul, pEq_int, pEq_bl, pEq_str, pEq_nm, pEq_nil, pIsN, pIx, pLen, pAbs, pMin, pMax, pDivmod, pInt, pList, pTuple, pSumA, pAll, pAny, pIn_lst, pIn_tup, pIsi, D.tyn, isiB, flatD, keyD, Kind.S, wipeE, eDict0_ap, eDict1_ap, pGet, nm, atomL_app, atI_0, atI_1, atI_2, atI_3, e3, e4, Int.add_comm 1]
          have g2 : sSet 4 (.top [4]) (ePrim pAdd (lCons (eVar 4) (lCons (eLc .own (iRg (rg1 (eCall f_law_take [0] (lCons (eVar 0) (lCons (eC (.int 4)) lNil))))) (fun b => (gSet (.pr b) 5)) tYesF d_law_web_2 [5] [0]) lNil))) (wbE p6 1 tn n qs2 none) = some (.nx (wbE p' 1 tn n (qs2 ++ rs) none)) := by
            simp [sl_eq, callD_ap, startE, sSeq_ap, sIf_ap, sSet_ap, sRet_ap, sRetN_ap, sDrop_ap, sAsg_ap, sPar2_ap, sFor_ap, sNext_ap, sSetIt_ap, sPairSet_ap, gSetIt_ap, eVar_ap, eC_ap, ePrim_ap, lCons_ap, lNil_ap, lRef_ap, eOwn_ap, eCall_ap, ioW, setIO, setD, ioOut, ioGet, toT_ap, toTr_ap, tfAnd_ap, tfOr_ap, tfNot_ap, tYesF_ap, eIf_ap, eAnd_ap, eOr_ap, eNot_ap, eMut_ap, pName_ap, pSub1_ap, hasP, hasT, tyD, storL, storable, getP, setP, opApp, opIns, opPop, opClear, opExt, opSet, putE, putV, freeze, frz1, newAll, allNew, Mode.frz, Mode.w, Mode.new, retOk, D.atom, D.atomL, D.flat, D.tru, D.node, D.items, D.isNon, gSet_ap, gsNil, gsCons, gTupE, gSeqE, bindN, putP, iSeq_ap, iRg_ap, iEnm_ap, rg1_ap, rg2_ap, eListRg_ap, oNone_ap, oSome_ap, eSlice_ap, pSlice, pTup_ap, pLst_ap, pI2, pNeg, pAdd, pMul, pEq_int, pEq_bl, pEq_str, pEq_nm, pEq_nil, pIsN, pIx, pLen, pAbs, pMin, pMax, pDivmod, pInt, pList, pTuple, pSumA, pAll, pAny, pIn_lst, pIn_tup, pIsi, D.tyn, isiB, flatD, keyD, Kind.S, wipeE, eDict0_ap, eDict1_ap, pGet, nm, atomL_app, atI_0, atI_1, atI_2, atI_3, k5, f5, sizeLine_eq, atomL_ln]
          have g0 : tfAnd (toT (ePrim (pEq false) (lCons (eVar 1) (lCons (eC (.int 1)) lNil)))) (toT (ePrim pGt (lCons (eVar 3) (lCons (eC (.int 1)) lNil)))) (wbE p 1 tn n qs none) = some (true, wbE p 1 tn n qs none) := by
            simp [sl_eq, callD_ap, startE, sSeq_ap, sIf_ap, sSet_ap, sRet_ap, sRetN_ap, sDrop_ap, sAsg_ap, sPar2_ap, sFor_ap, sNext_ap, sSetIt_ap, sPairSet_ap, gSetIt_ap, eVar_ap, eC_ap, ePrim_ap, lCons_ap, lNil_ap, lRef_ap, eOwn_ap, eCall_ap, ioW, setIO, setD, ioOut, ioGet, toT_ap, toTr_ap, tfAnd_ap, tfOr_ap, tfNot_ap, tYesF_ap, eIf_ap, eAnd_ap, eOr_ap, eNot_ap, eMut_ap, pName_ap, pSub1_ap, hasP, hasT, tyD, storL, storable, getP, setP, opApp, opIns, opPop, opClear, opExt, opSet, putE, putV, freeze, frz1, newAll, allNew, Mode.frz, Mode.w, Mode.new, retOk, D.atom, D.atomL, D.flat, D.tru, D.node, D.items, D.isNon, gSet_ap, gsNil, gsCons, gTupE, gSeqE, bindN, putP, iSeq_ap, iRg_ap, iEnm_ap, rg1_ap, rg2_ap, eListRg_ap, oNone_ap, oSome_ap, eSlice_ap, pSlice, pTup_ap, pLst_ap, pI2, pNeg, pAdd, pMul, pEq_int, pEq_bl, pEq_str, pEq_nm, pEq_nil, pIsN, pIx, pLen, pAbs, pMin, pMax, pDivmod, pInt, pList, pTuple, pSumA, pAll, pAny, pIn_lst, pIn_tup, pIsi, D.tyn, isiB, flatD, keyD, Kind.S, wipeE, eDict0_ap, eDict1_ap, pGet, nm, atomL_app, atI_0, atI_1, atI_2, atI_3, c2]
          rw [sIf_ap, g0]
          dsimp only
          rw [sSeq_ap, g1]
          dsimp only
          rw [sSeq_ap, e6]
          exact g2
        · rcases List.mem_append.mp hq with hq | hq
          · exact hq2 q hq
          · exact k2 q hq
      · refine ⟨wbE p w tn n qs none, ?_, p, w, tn, n, qs, hp, n1, n2, hq, hl, rfl⟩
        by_cases hz : w = 1
        · have c2 : ¬ (1 : Int) < (n : Int) := fun z => hc ⟨hz, by omega⟩
          subst hz
          simp [sl_eq, callD_ap, startE, sSeq_ap, sIf_ap, sSet_ap, sRet_ap, sRetN_ap, sDrop_ap, sAsg_ap, sPar2_ap, sFor_ap, sNext_ap, sSetIt_ap, sPairSet_ap, gSetIt_ap, eVar_ap, eC_ap, ePrim_ap, lCons_ap, lNil_ap, lRef_ap, eOwn_ap, eCall_ap, ioW, setIO, setD, ioOut, ioGet, toT_ap, toTr_ap, tfAnd_ap, tfOr_ap, tfNot_ap, tYesF_ap, eIf_ap, eAnd_ap, eOr_ap, eNot_ap, eMut_ap, pName_ap, pSub1_ap, hasP, hasT, tyD, storL, storable, getP, setP, opApp, opIns, opPop, opClear, opExt, opSet, putE, putV, freeze, frz1, newAll, allNew, Mode.frz, Mode.w, Mode.new, retOk, D.atom, D.atomL, D.flat, D.tru, D.node, D.items, D.isNon, gSet_ap, gsNil, gsCons, gTupE, gSeqE, bindN, putP, iSeq_ap, iRg_ap, iEnm_ap, rg1_ap, rg2_ap, eListRg_ap, oNone_ap, oSome_ap, eSlice_ap, pSlice, pTup_ap, pLst_ap, pI2, pNeg, pAdd, pMul, pEq_int, pEq_bl, pEq_str, pEq_nm, pEq_nil, pIsN, pIx, pLen, pAbs, pMin, pMax, pDivmod, pInt, pList, pTuple, pSumA, pAll, pAny, pIn_lst, pIn_tup, pIsi, D.tyn, isiB, flatD, keyD, Kind.S, wipeE, eDict0_ap, eDict1_ap, pGet, nm, atomL_app, atI_0, atI_1, atI_2, atI_3, c2]
        · have c1 : ¬ (w : Int) = 1 := by omega
          simp [sl_eq, callD_ap, startE, sSeq_ap, sIf_ap, sSet_ap, sRet_ap, sRetN_ap, sDrop_ap, sAsg_ap, sPar2_ap, sFor_ap, sNext_ap, sSetIt_ap, sPairSet_ap, gSetIt_ap, eVar_ap, eC_ap, ePrim_ap, lCons_ap, lNil_ap, lRef_ap, eOwn_ap, eCall_ap, ioW, setIO, setD, ioOut, ioGet, toT_ap, toTr_ap, tfAnd_ap, tfOr_ap, tfNot_ap, tYesF_ap, eIf_ap, eAnd_ap, eOr_ap, eNot_ap, eMut_ap, pName_ap, pSub1_ap, hasP, hasT, tyD, storL, storable, getP, setP, opApp, opIns, opPop, opClear, opExt, opSet, putE, putV, freeze, frz1, newAll, allNew, Mode.frz, Mode.w, Mode.new, retOk, D.atom, D.atomL, D.flat, D.tru, D.node, D.items, D.isNon, gSet_ap, gsNil, gsCons, gTupE, gSeqE, bindN, putP, iSeq_ap, iRg_ap, iEnm_ap, rg1_ap, rg2_ap, eListRg_ap, oNone_ap, oSome_ap, eSlice_ap, pSlice, pTup_ap, pLst_ap, pI2, pNeg, pAdd, pMul, pEq_int, pEq_bl, pEq_str, pEq_nm, pEq_nil, pIsN, pIx, pLen, pAbs, pMin, pMax, pDivmod, pInt, pList, pTuple, pSumA, pAll, pAny, pIn_lst, pIn_tup, pIsi, D.tyn, isiB, flatD, keyD, Kind.S, wipeE, eDict0_ap, eDict1_ap, pGet, nm, atomL_app, atI_0, atI_1, atI_2, atI_3, c1]
    clear hq hl hp
    clear p qs w n1 n2 n tn
    rintro _ ⟨p, w, tn, n, qs, hp, n1, n2, hq, hl, rfl⟩
    -- clumps
    refine sSeq_inv WbI ?_ ?_
    · by_cases hc : w = 2 ∧ 1 < n
      · obtain ⟨rfl, hn1⟩ := hc
        obtain ⟨rs, p', k1, k2, k3, k4⟩ := clumps_ok hp (n := n) (by omega) n2
        refine ⟨wbE p' 2 tn n rs none, ?_, p', 2, tn, n, rs, k1, n1, n2, k2, by omega, rfl⟩
        have c2 : (1 : Int) < (n : Int) := by omega
        simp [nm] at k4
        simp [sl_eq, callD_ap, startE, sSeq_ap, sIf_ap, sSet_ap, sRet_ap, sRetN_ap, sDrop_ap, sAsg_ap, sPar2_ap, sFor_ap, sNext_ap, sSetIt_ap, sPairSet_ap, gSetIt_ap, eVar_ap, eC_ap, ePrim_ap, lCons_ap, lNil_ap, lRef_ap, eOwn_ap, eCall_ap, ioW, setIO, setD, ioOut, ioGet, toT_ap, toTr_ap, tfAnd_ap, tfOr_ap, tfNot_ap, tYesF_ap, eIf_ap, eAnd_ap, eOr_ap, eNot_ap, eMut_ap, pName_ap, pSub1_ap, hasP, hasT, tyD, storL, storable, getP, setP, opApp, opIns, opPop, opClear, opExt, opSet, putE, putV, freeze, frz1, newAll, allNew, Mode.frz, Mode.w, Mode.new, retOk, D.atom, D.atomL, D.flat, D.tru, D.node, D.items, D.isNon, gSet_ap, gsNil, gsCons, gTupE, gSeqE, bindN, putP, iSeq_ap, iRg_ap, iEnm_ap, rg1_ap, rg2_ap, eListRg_ap, oNone_ap, oSome_ap, eSlice_ap, pSlice, pTup_ap, pLst_ap, pI2, pNeg, pAdd, pMul, pEq_int, pEq_bl, pEq_str, pEq_nm, pEq_nil, pIsN, pIx, pLen, pAbs, pMin, pMax, pDivmod, pInt, pList, pTuple, pSumA, pAll, pAny, pIn_lst, pIn_tup, pIsi, D.tyn, isiB, flatD, keyD, Kind.S, wipeE, eDict0_ap, eDict1_ap, pGet, nm, atomL_app, atI_0, atI_1, atI_2, atI_3, c2, k4]
      · refine ⟨wbE p w tn n qs none, ?_, p, w, tn, n, qs, hp, n1, n2, hq, hl, rfl⟩
        by_cases hz : w = 2
        · have c2 : ¬ (1 : Int) < (n : Int) := fun z => hc ⟨hz, by omega⟩
          subst hz
          simp [sl_eq, callD_ap, startE, sSeq_ap, sIf_ap, sSet_ap, sRet_ap, sRetN_ap, sDrop_ap, sAsg_ap, sPar2_ap, sFor_ap, sNext_ap, sSetIt_ap, sPairSet_ap, gSetIt_ap, eVar_ap, eC_ap, ePrim_ap, lCons_ap, lNil_ap, lRef_ap, eOwn_ap, eCall_ap, ioW, setIO, setD, ioOut, ioGet, toT_ap, toTr_ap, tfAnd_ap, tfOr_ap, tfNot_ap, tYesF_ap, eIf_ap, eAnd_ap, eOr_ap, eNot_ap, eMut_ap, pName_ap, pSub1_ap, hasP, hasT, tyD, storL, storable, getP, setP, opApp, opIns, opPop, opClear, opExt, opSet, putE, putV, freeze, frz1, newAll, allNew, Mode.frz, Mode.w, Mode.new, retOk, D.atom, D.atomL, D.flat, D.tru, D.node, D.items, D.isNon, gSet_ap, gsNil, gsCons, gTupE, gSeqE, bindN, putP, iSeq_ap, iRg_ap, iEnm_ap, rg1_ap, rg2_ap, eListRg_ap, oNone_ap, oSome_ap, eSlice_ap, pSlice, pTup_ap, pLst_ap, pI2, pNeg, pAdd, pMul, pEq_int, pEq_bl, pEq_str, pEq_nm, pEq_nil, pIsN, pIx, pLen, pAbs, pMin, pMax, pDivmod, pInt, pList, pTuple, pSumA, pAll, pAny, pIn_lst, pIn_tup, pIsi, D.tyn, isiB, flatD, keyD, Kind.S, wipeE, eDict0_ap, eDict1_ap, pGet, nm, atomL_app, atI_0, atI_1, atI_2, atI_3, c2]
        · have c1 : ¬ (w : Int) = 2 := by omega
          simp [sl_eq, callD_ap, startE, sSeq_ap, sIf_ap, sSet_ap, sRet_ap, sRetN_ap, sDrop_ap, sAsg_ap, sPar2_ap, sFor_ap, sNext_ap, sSetIt_ap, sPairSet_ap, gSetIt_ap, eVar_ap, eC_ap, ePrim_ap, lCons_ap, lNil_ap, lRef_ap, eOwn_ap, eCall_ap, ioW, setIO, setD, ioOut, ioGet, toT_ap, toTr_ap, tfAnd_ap, tfOr_ap, tfNot_ap, tYesF_ap, eIf_ap, eAnd_ap, eOr_ap, eNot_ap, eMut_ap, pName_ap, pSub1_ap, hasP, hasT, tyD, storL, storable, getP, setP, opApp, opIns, opPop, opClear, opExt, opSet, putE, putV, freeze, frz1, newAll, allNew, Mode.frz, Mode.w, Mode.new, retOk, D.atom, D.atomL, D.flat, D.tru, D.node, D.items, D.isNon, gSet_ap, gsNil, gsCons, gTupE, gSeqE, bindN, putP, iSeq_ap, iRg_ap, iEnm_ap, rg1_ap, rg2_ap, eListRg_ap, oNone_ap, oSome_ap, eSlice_ap, pSlice, pTup_ap, pLst_ap, pI2, pNeg, pAdd, pMul, pEq_int, pEq_bl, pEq_str, pEq_nm, pEq_nil, pIsN, pIx, pLen, pAbs, pMin, pMax, pDivmod, pInt, pList, pTuple, pSumA, pAll, pAny, pIn_lst, pIn_tup, pIsi, D.tyn, isiB, flatD, keyD, Kind.S, wipeE, eDict0_ap, eDict1_ap, pGet, nm, atomL_app, atI_0, atI_1, atI_2, atI_3, c1]
    clear hq hl hp
    clear p qs w n1 n2 n tn
    rintro _ ⟨p, w, tn, n, qs, hp, n1, n2, hq, hl, rfl⟩
    -- few places
    refine sSeq_inv WbI ?_ ?_
    · by_cases hc : w = 3
      · subst hc
        obtain ⟨n', p3, hp3, hn', e3⟩ := take_ok hp (m := 2) (by omega) (by omega)
        obtain ⟨m, p7, hp7, hm, e7⟩ := take_ok hp3 (m := 61) (by omega) (by omega)
        have f2 := rg_nat m
        have f3 := rgOk_nat (n := m) (by omega)
        obtain ⟨rs, p', k1, k2, k3, k4⟩ := pairs_eLc (E := wbE p3 3 tn (2 + n') qs none) (src := iRg (rg1 (eCall f_law_take [0] (lCons (eVar 0) (lCons (eC (.int 61)) lNil))))) (p := p7) (w := 3) (tn := tn) (n := 2 + n') (qs := qs) (m := m) (by
          simp [sl_eq, callD_ap, startE, sSeq_ap, sIf_ap, sSet_ap, sRet_ap, sRetN_ap, sDrop_ap, sAsg_ap, sPar2_ap, sFor_ap, sNext_ap, sSetIt_ap, sPairSet_ap, gSetIt_ap, eVar_ap, eC_ap, ePrim_ap, lCons_ap, lNil_ap, lRef_ap, eOwn_ap, eCall_ap, ioW, setIO, setD, ioOut, ioGet, toT_ap, toTr_ap, tfAnd_ap, tfOr_ap, tfNot_ap, tYesF_ap, eIf_ap, eAnd_ap, eOr_ap, eNot_ap, eMut_ap, pName_ap, pSub1_ap, hasP, hasT, tyD, storL, storable, getP, setP, opApp, opIns, opPop, opClear, opExt, opSet, putE, putV, freeze, frz1, newAll, allNew, Mode.frz, Mode.w, Mode.new, retOk, D.atom, D.atomL, D.flat, D.tru, D.node, D.items, D.isNon, gSet_ap, gsNil, gsCons, gTupE, gSeqE, bindN, putP, iSeq_ap, iRg_ap, iEnm_ap, rg1_ap, rg2_ap, eListRg_ap, oNone_ap, oSome_ap, eSlice_ap, pSlice, pTup_ap, pLst_ap, pI2, pNeg, pAdd, pMul, pEq_int, pEq_bl, pEq_str, pEq_nm, pEq_nil, pIsN, pIx, pLen, pAbs, pMin, pMax, pDivmod, pInt, pList, pTuple, pSumA, pAll, pAny, pIn_lst, pIn_tup, pIsi, D.tyn, isiB, flatD, keyD, Kind.S, wipeE, eDict0_ap, eDict1_ap, pGet, nm, atomL_app, atI_0, atI_1, atI_2, atI_3, e7, f2, f3]) (by omega) hp7 (by omega) (by omega)
        have k5 : eLc .own (iRg (rg1 (eCall f_law_take [0] (lCons (eVar 0) (lCons (eC (.int 61)) lNil))))) (fun b => (gSet (.pr b) 5)) tYesF d_law_web_3 [5] [0] (wbE p3 3 tn (2 + n') qs none) = some (.lst (rs.map ln), wbE p' 3 tn (2 + n') qs none) := k4
        refine ⟨wbE p' 3 tn (2 + n') rs none, ?_, p', 3, tn, 2 + n', rs, k1, by omega, by omega, k2, by omega, rfl⟩
        simp [wbE, nm] at k5
        simp [sl_eq, callD_ap, startE, sSeq_ap, sIf_ap, sSet_ap, sRet_ap, sRetN_ap, sDrop_ap, sAsg_ap, sPar2_ap, sFor_ap, sNext_ap, sSetIt_ap, sPairSet_ap, gSetIt_ap, eVar_ap, eC_ap, ePrim_ap, lCons_ap, lNil_ap, lRef_ap, eOwn_ap, eCall_ap, ioW, setIO, setD, ioOut, ioGet, toT_ap, toTr_ap, tfAnd_ap, tfOr_ap, tfNot_ap, tYesF_ap, eIf_ap, eAnd_ap, eOr_ap, eNot_ap, eMut_ap, pName_ap, pSub1_ap, hasP, hasT, tyD, storL, storable, getP, setP, opApp, opIns, opPop, opClear, opExt, opSet, putE, putV, freeze, frz1, newAll, allNew, Mode.frz, Mode.w, Mode.new, retOk, D.atom, D.atomL, D.flat, D.tru, D.node, D.items, D.isNon, gSet_ap, gsNil, gsCons, gTupE, gSeqE, bindN, putP, iSeq_ap, iRg_ap, iEnm_ap, rg1_ap, rg2_ap, eListRg_ap, oNone_ap, oSome_ap, eSlice_ap, pSlice, pTup_ap, pLst_ap, pI2, pNeg, pAdd, pMul, pEq_int, pEq_bl, pEq_str, pEq_nm, pEq_nil, pIsN, pIx, pLen, pAbs, pMin, pMax, pDivmod, pInt, pList, pTuple, pSumA, pAll, pAny, pIn_lst, pIn_tup, pIsi, D.tyn, isiB, flatD, keyD, Kind.S, wipeE, eDict0_ap, eDict1_ap, pGet, nm, atomL_app, atI_0, atI_1, atI_2, atI_3, e3, k5]
      · refine ⟨wbE p w tn n qs none, ?_, p, w, tn, n, qs, hp, n1, n2, hq, hl, rfl⟩
        have c1 : ¬ (w : Int) = 3 := by omega
        simp [sl_eq, callD_ap, startE, sSeq_ap, sIf_ap, sSet_ap, sRet_ap, sRetN_ap, sDrop_ap, sAsg_ap, sPar2_ap, sFor_ap, sNext_ap, sSetIt_ap, sPairSet_ap, gSetIt_ap, eVar_ap, eC_ap, ePrim_ap, lCons_ap, lNil_ap, lRef_ap, eOwn_ap, eCall_ap, ioW, setIO, setD, ioOut, ioGet, toT_ap, toTr_ap, tfAnd_ap, tfOr_ap, tfNot_ap, tYesF_ap, eIf_ap, eAnd_ap, eOr_ap, eNot_ap, eMut_ap, pName_ap, pSub1_ap, hasP, hasT, tyD, storL, storable, getP, setP, opApp, opIns, opPop, opClear, opExt, opSet, putE, putV, freeze, frz1, newAll, allNew, Mode.frz, Mode.w, Mode.new, retOk, D.atom, D.atomL, D.flat, D.tru, D.node, D.items, D.isNon, gSet_ap, gsNil, gsCons, gTupE, gSeqE, bindN, putP, iSeq_ap, iRg_ap, iEnm_ap, rg1_ap, rg2_ap, eListRg_ap, oNone_ap, oSome_ap, eSlice_ap, pSlice, pTup_ap, pLst_ap, pI2, pNeg, pAdd, pMul, pEq_int, pEq_bl, pEq_str, pEq_nm, pEq_nil, pIsN, pIx, pLen, pAbs, pMin, pMax, pDivmod, pInt, pList, pTuple, pSumA, pAll, pAny, pIn_lst, pIn_tup, pIsi, D.tyn, isiB, flatD, keyD, Kind.S, wipeE, eDict0_ap, eDict1_ap, pGet, nm, atomL_app, atI_0, atI_1, atI_2, atI_3, c1]
    clear hq hl hp
    clear p qs w n1 n2 n tn
    rintro _ ⟨p, w, tn, n, qs, hp, n1, n2, hq, hl, rfl⟩
    -- called otherwise
    refine sSeq_inv WbI ?_ ?_
    · cases tn with
      | true =>
        obtain ⟨rs, p', k1, k2, k3, k4⟩ := turned_ok hp n2 hq (by omega)
        refine ⟨wbE p' w true n rs none, ?_, p', w, true, n, rs, k1, n1, n2, k2, by omega, rfl⟩
        simp [nm] at k4
        simp [sl_eq, callD_ap, startE, sSeq_ap, sIf_ap, sSet_ap, sRet_ap, sRetN_ap, sDrop_ap, sAsg_ap, sPar2_ap, sFor_ap, sNext_ap, sSetIt_ap, sPairSet_ap, gSetIt_ap, eVar_ap, eC_ap, ePrim_ap, lCons_ap, lNil_ap, lRef_ap, eOwn_ap, eCall_ap, ioW, setIO, setD, ioOut, ioGet, toT_ap, toTr_ap, tfAnd_ap, tfOr_ap, tfNot_ap, tYesF_ap, eIf_ap, eAnd_ap, eOr_ap, eNot_ap, eMut_ap, pName_ap, pSub1_ap, hasP, hasT, tyD, storL, storable, getP, setP, opApp, opIns, opPop, opClear, opExt, opSet, putE, putV, freeze, frz1, newAll, allNew, Mode.frz, Mode.w, Mode.new, retOk, D.atom, D.atomL, D.flat, D.tru, D.node, D.items, D.isNon, gSet_ap, gsNil, gsCons, gTupE, gSeqE, bindN, putP, iSeq_ap, iRg_ap, iEnm_ap, rg1_ap, rg2_ap, eListRg_ap, oNone_ap, oSome_ap, eSlice_ap, pSlice, pTup_ap, pLst_ap, pI2, pNeg, pAdd, pMul, pEq_int, pEq_bl, pEq_str, pEq_nm, pEq_nil, pIsN, pIx, pLen, pAbs, pMin, pMax, pDivmod, pInt, pList, pTuple, pSumA, pAll, pAny, pIn_lst, pIn_tup, pIsi, D.tyn, isiB, flatD, keyD, Kind.S, wipeE, eDict0_ap, eDict1_ap, pGet, nm, atomL_app, atI_0, atI_1, atI_2, atI_3, k4]
      | false => exact ⟨wbE p w false n qs none, by simp [sl_eq, callD_ap, startE, sSeq_ap, sIf_ap, sSet_ap, sRet_ap, sRetN_ap, sDrop_ap, sAsg_ap, sPar2_ap, sFor_ap, sNext_ap, sSetIt_ap, sPairSet_ap, gSetIt_ap, eVar_ap, eC_ap, ePrim_ap, lCons_ap, lNil_ap, lRef_ap, eOwn_ap, eCall_ap, ioW, setIO, setD, ioOut, ioGet, toT_ap, toTr_ap, tfAnd_ap, tfOr_ap, tfNot_ap, tYesF_ap, eIf_ap, eAnd_ap, eOr_ap, eNot_ap, eMut_ap, pName_ap, pSub1_ap, hasP, hasT, tyD, storL, storable, getP, setP, opApp, opIns, opPop, opClear, opExt, opSet, putE, putV, freeze, frz1, newAll, allNew, Mode.frz, Mode.w, Mode.new, retOk, D.atom, D.atomL, D.flat, D.tru, D.node, D.items, D.isNon, gSet_ap, gsNil, gsCons, gTupE, gSeqE, bindN, putP, iSeq_ap, iRg_ap, iEnm_ap, rg1_ap, rg2_ap, eListRg_ap, oNone_ap, oSome_ap, eSlice_ap, pSlice, pTup_ap, pLst_ap, pI2, pNeg, pAdd, pMul, pEq_int, pEq_bl, pEq_str, pEq_nm, pEq_nil, pIsN, pIx, pLen, pAbs, pMin, pMax, pDivmod, pInt, pList, pTuple, pSumA, pAll, pAny, pIn_lst, pIn_tup, pIsi, D.tyn, isiB, flatD, keyD, Kind.S, wipeE, eDict0_ap, eDict1_ap, pGet, nm, atomL_app, atI_0, atI_1, atI_2, atI_3], p, w, false, n, qs, hp, n1, n2, hq, hl, rfl⟩
    clear hq hl hp
    clear p qs w n1 n2 n tn
    rintro _ ⟨p, w, tn, n, qs, hp, n1, n2, hq, hl, rfl⟩
    refine ⟨_, ?_, n, qs.take 60, p, wbE p w tn n qs none, hp, n1, n2, by rw [List.length_take]; omega, fun q hq' => hq q (List.mem_of_mem_take hq'), rfl, rfl⟩
    have := atomL_ln (qs.take 60)
    rw [List.map_take] at this
    simp [sl_eq, callD_ap, startE, sSeq_ap, sIf_ap, sSet_ap, sRet_ap, sRetN_ap, sDrop_ap, sAsg_ap, sPar2_ap, sFor_ap, sNext_ap, sSetIt_ap, sPairSet_ap, gSetIt_ap, eVar_ap, eC_ap, ePrim_ap, lCons_ap, lNil_ap, lRef_ap, eOwn_ap, eCall_ap, ioW, setIO, setD, ioOut, ioGet, toT_ap, toTr_ap, tfAnd_ap, tfOr_ap, tfNot_ap, tYesF_ap, eIf_ap, eAnd_ap, eOr_ap, eNot_ap, eMut_ap, pName_ap, pSub1_ap, hasP, hasT, tyD, storL, storable, getP, setP, opApp, opIns, opPop, opClear, opExt, opSet, putE, putV, freeze, frz1, newAll, allNew, Mode.frz, Mode.w, Mode.new, retOk, D.atom, D.atomL, D.flat, D.tru, D.node, D.items, D.isNon, gSet_ap, gsNil, gsCons, gTupE, gSeqE, bindN, putP, iSeq_ap, iRg_ap, iEnm_ap, rg1_ap, rg2_ap, eListRg_ap, oNone_ap, oSome_ap, eSlice_ap, pSlice, pTup_ap, pLst_ap, pI2, pNeg, pAdd, pMul, pEq_int, pEq_bl, pEq_str, pEq_nm, pEq_nil, pIsN, pIx, pLen, pAbs, pMin, pMax, pDivmod, pInt, pList, pTuple, pSumA, pAll, pAny, pIn_lst, pIn_tup, pIsi, D.tyn, isiB, flatD, keyD, Kind.S, wipeE, eDict0_ap, eDict1_ap, pGet, nm, atomL_app, atI_0, atI_1, atI_2, atI_3, cut_60, sizeLine_eq, this, List.map_take]
  obtain ⟨r, e, n, qs, p', E, h1, h2, h3, h4, hb, h5, rfl⟩ := main
  refine ⟨n, qs, p', h1, h2, h3, h4, hb, ?_⟩
  simp [f_law_web, callD_ap, startE, e, ioOut, h5]
end VL
set_option maxHeartbeats 4000000
namespace VL
open PySem PySem.Spec PyProof.Rows L2
/-! ### dicts of ways -/
abbrev dk (al : List (Nat × List Nat)) : List Key := al.map fun p => Sum.inl (p.1 : Int)
abbrev dv (al : List (Nat × List Nat)) : List D := al.map fun p => lsD p.2
theorem key_ne {x y : Nat} (h : x ≠ y) : ¬ ((Sum.inl (x : Int) : Key) = Sum.inl (y : Int)) := fun e => by
  cases e
  exact h rfl
theorem atK_some {x : Nat} {w : List Nat} : ∀ {al : List (Nat × List Nat)}, (al.map (·.1)).Nodup → (x, w) ∈ al → atK (dk al) (dv al) (Sum.inl (x : Int)) = some (lsD w)
  | [], _, h => by cases h
  | p :: al, nd, h => by
    rw [List.map_cons, List.nodup_cons] at nd
    show (if (Sum.inl (p.1 : Int) : Key) = Sum.inl (x : Int) then some (lsD p.2) else atK (dk al) (dv al) (Sum.inl (x : Int))) = _
    rcases List.mem_cons.mp h with h | h
    · rw [← h, if_pos rfl]
    · have ne : p.1 ≠ x := fun e => nd.1 (by rw [e]; exact List.mem_map.mpr ⟨_, h, rfl⟩)
      rw [if_neg (key_ne ne)]
      exact atK_some nd.2 h
theorem atK_none {x : Nat} : ∀ {al : List (Nat × List Nat)}, x ∉ al.map (·.1) → atK (dk al) (dv al) (Sum.inl (x : Int)) = none
  | [], _ => rfl
  | p :: al, h => by
    rw [List.map_cons, List.mem_cons] at h
    show (if (Sum.inl (p.1 : Int) : Key) = Sum.inl (x : Int) then some (lsD p.2) else atK (dk al) (dv al) (Sum.inl (x : Int))) = _
    rw [if_neg (key_ne fun e => h (.inl e.symm))]
    exact atK_none fun z => h (.inr z)
theorem putKD_new {x : Nat} {d : D} : ∀ {al : List (Nat × List Nat)}, x ∉ al.map (·.1) → putKD (dk al) (dv al) (Sum.inl (x : Int)) d = (dk al ++ [Sum.inl (x : Int)], dv al ++ [d])
  | [], _ => rfl
  | p :: al, h => by
    rw [List.map_cons, List.mem_cons] at h
    show (if (Sum.inl (p.1 : Int) : Key) = Sum.inl (x : Int) then _ else _) = _
    rw [if_neg (key_ne fun e => h (.inl e.symm)), putKD_new fun z => h (.inr z)]
    rfl
theorem pIn_dk (neg : Bool) (x : Nat) {al : List (Nat × List Nat)} (nd : (al.map (·.1)).Nodup) : pIn neg [.int (x : Int), .dct (dk al) (dv al)] = some (.bl (if neg then !decide (x ∈ al.map (·.1)) else decide (x ∈ al.map (·.1)))) := by
  simp only [pIn, D.has, keyD, Option.map_some]
  by_cases h : x ∈ al.map (·.1)
  · obtain ⟨p, hp, rfl⟩ := List.mem_map.mp h
    rw [atK_some (w := p.2) nd hp]
    simp [h]
  · rw [atK_none h]
    simp [h]
theorem pIn_ln (neg : Bool) (x : Nat) (q : Nat × Nat) : pIn neg [.int (x : Int), .tup [nm q.1, nm q.2]] = some (.bl (if neg then !decide (x = q.1 ∨ x = q.2) else decide (x = q.1 ∨ x = q.2))) := by
  have h := pIn_tup neg x [q.1, q.2]
  simp only [List.map_cons, List.map_nil] at h
  rw [h]
  simp
abbrev wyE (n : Nat) (ps : List (Nat × Nat)) (N : List Nat) (a b : Nat) (al : List (Nat × List Nat)) (R : List Nat) (x6 x7 x8 x9 : Option (Mode × D)) : Env := [some (.arg, webD n ps), some (.arg, lsD N), some (.arg, nm a), some (.arg, nm b), some (.own, .dct (dk al) (dv al)), some (.own, lsD R), x6, x7, x8, x9]
section
variable {n : Nat} {ps : List (Nat × Nat)} {N : List Nat} {a b : Nat} {al : List (Nat × List Nat)} {R : List Nat} {x7 x8 x9 : Option (Mode × D)} {x k : Nat} {q : Nat × Nat}
theorem way_far (hq : ps[k]? = some q) (h : ¬ (x = q.1 ∨ x = q.2)) : d_way_by_1 (wyE n ps N a b al R (some (.own, nm x)) (some (.own, nm k)) x8 x9) = some (.nx (wyE n ps N a b al R (some (.own, nm x)) (some (.own, nm k)) (some (.own, ln q)) x9)) := by
  have j0 := atI_nat (ps.map ln) k
  rw [List.getElem?_map, hq] at j0
  simp only [Option.map_some] at j0
  have p1 : pIn false [.int (x : Int), .tup [.int (q.1 : Int), .int (q.2 : Int)]] = some (.bl false) := by
    have := pIn_ln false x q
    simp only [decide_eq_false h] at this
    exact this
  simp [d_way_by_1, sl_eq, callD_ap, startE, sSeq_ap, sIf_ap, sSet_ap, sRet_ap, sRetN_ap, sDrop_ap, sAsg_ap, sPar2_ap, sFor_ap, sNext_ap, sSetIt_ap, sPairSet_ap, gSetIt_ap, eVar_ap, eC_ap, ePrim_ap, lCons_ap, lNil_ap, lRef_ap, eOwn_ap, eCall_ap, ioW, setIO, setD, ioOut, ioGet, toT_ap, toTr_ap, tfAnd_ap, tfOr_ap, tfNot_ap, tYesF_ap, eIf_ap, eAnd_ap, eOr_ap, eNot_ap, eMut_ap, pName_ap, pSub1_ap, hasP, hasT, tyD, storL, storable, getP, setP, opApp, opIns, opPop, opClear, opExt, opSet, putE, putV, freeze, frz1, newAll, allNew, Mode.frz, Mode.w, Mode.new, retOk, D.atom, D.atomL, D.flat, D.tru, D.node, D.items, D.isNon, gSet_ap, gsNil, gsCons, gTupE, gSeqE, bindN, putP, iSeq_ap, iRg_ap, iEnm_ap, rg1_ap, rg2_ap, eListRg_ap, oNone_ap, oSome_ap, eSlice_ap, pSlice, pTup_ap, pLst_ap, pI2, pNeg, pAdd, pMul, pEq_int, pEq_bl, pEq_str, pEq_nm, pEq_nil, pIsN, pIx, pLen, pAbs, pMin, pMax, pDivmod, pInt, pList, pTuple, pSumA, pAll, pAny, pIn_lst, pIn_tup, pIsi, D.tyn, isiB, flatD, keyD, Kind.S, wipeE, eDict0_ap, eDict1_ap, pGet, nm, atomL_app, atI_0, atI_1, atI_2, atI_3, j0, p1]
theorem way_old {y : Nat} (nd : (al.map (·.1)).Nodup) (hq : ps[k]? = some q) (j : (q.1 = x ∧ q.2 = y) ∨ (q.1 = y ∧ q.2 = x)) (h : y ∈ al.map (·.1)) : d_way_by_1 (wyE n ps N a b al R (some (.own, nm x)) (some (.own, nm k)) x8 x9) = some (.nx (wyE n ps N a b al R (some (.own, nm x)) (some (.own, nm k)) (some (.own, ln q)) (some (.own, nm y)))) := by
  have j0 := atI_nat (ps.map ln) k
  rw [List.getElem?_map, hq] at j0
  simp only [Option.map_some] at j0
  have p2 := pIn_dk true y nd
  have hx : x = q.1 ∨ x = q.2 := by omega
  have hy : (q.1 : Int) + (q.2 : Int) - (x : Int) = (y : Int) := by omega
  have p1 : pIn false [.int (x : Int), .tup [.int (q.1 : Int), .int (q.2 : Int)]] = some (.bl true) := by
    have := pIn_ln false x q
    simp only [decide_eq_true hx] at this
    exact this
  simp only [decide_eq_true h] at p2
  simp [d_way_by_1, sl_eq, callD_ap, startE, sSeq_ap, sIf_ap, sSet_ap, sRet_ap, sRetN_ap, sDrop_ap, sAsg_ap, sPar2_ap, sFor_ap, sNext_ap, sSetIt_ap, sPairSet_ap, gSetIt_ap, eVar_ap, eC_ap, ePrim_ap, lCons_ap, lNil_ap, lRef_ap, eOwn_ap, eCall_ap, ioW, setIO, setD, ioOut, ioGet, toT_ap, toTr_ap, tfAnd_ap, tfOr_ap, tfNot_ap, tYesF_ap, eIf_ap, eAnd_ap, eOr_ap, eNot_ap, eMut_ap, pName_ap, pSub1_ap, hasP, hasT, tyD, storL, storable, getP, setP, opApp, opIns, opPop, opClear, opExt, opSet, putE, putV, freeze, frz1, newAll, allNew, Mode.frz, Mode.w, Mode.new, retOk, D.atom, D.atomL, D.flat, D.tru, D.node, D.items, D.isNon, gSet_ap, gsNil, gsCons, gTupE, gSeqE, bindN, putP, iSeq_ap, iRg_ap, iEnm_ap, rg1_ap, rg2_ap, eListRg_ap, oNone_ap, oSome_ap, eSlice_ap, pSlice, pTup_ap, pLst_ap, pI2, pNeg, pAdd, pMul, pEq_int, pEq_bl, pEq_str, pEq_nm, pEq_nil, pIsN, pIx, pLen, pAbs, pMin, pMax, pDivmod, pInt, pList, pTuple, pSumA, pAll, pAny, pIn_lst, pIn_tup, pIsi, D.tyn, isiB, flatD, keyD, Kind.S, wipeE, eDict0_ap, eDict1_ap, pGet, nm, atomL_app, atI_0, atI_1, atI_2, atI_3, intsD, j0, p1, p2, hx, hy]
theorem way_new {y : Nat} {w : List Nat} (nd : (al.map (·.1)).Nodup) (hx : (x, w) ∈ al) (hw : w.length ≤ 100) (hR : R.length ≤ 100) (hal : al.length ≤ 100) (hq : ps[k]? = some q) (j : (q.1 = x ∧ q.2 = y) ∨ (q.1 = y ∧ q.2 = x)) (h : y ∉ al.map (·.1)) : d_way_by_1 (wyE n ps N a b al R (some (.own, nm x)) (some (.own, nm k)) x8 x9) = some (.nx (wyE n ps N a b (al ++ [(y, w ++ [k])]) (R ++ [y]) (some (.own, nm x)) (some (.own, nm k)) (some (.own, ln q)) (some (.own, nm y)))) := by
  have j0 := atI_nat (ps.map ln) k
  rw [List.getElem?_map, hq] at j0
  simp only [Option.map_some] at j0
  have p2 := pIn_dk true y nd
  have p3 := atK_some nd hx
  have p4 := fun d => putKD_new (d := d) h
  have hx : x = q.1 ∨ x = q.2 := by omega
  have hy : (q.1 : Int) + (q.2 : Int) - (x : Int) = (y : Int) := by omega
  have f1 : w.length + 1 ≤ 16777216 := by omega
  have f2 : R.length < 16777216 := by omega
  have f3 : al.length < 16777216 := by omega
  have p1 : pIn false [.int (x : Int), .tup [.int (q.1 : Int), .int (q.2 : Int)]] = some (.bl true) := by
    have := pIn_ln false x q
    simp only [decide_eq_true hx] at this
    exact this
  simp only [decide_eq_false h] at p2
  simp [d_way_by_1, sl_eq, callD_ap, startE, sSeq_ap, sIf_ap, sSet_ap, sRet_ap, sRetN_ap, sDrop_ap, sAsg_ap, sPar2_ap, sFor_ap, sNext_ap, sSetIt_ap, sPairSet_ap, gSetIt_ap, eVar_ap, eC_ap, ePrim_ap, lCons_ap, lNil_ap, lRef_ap, eOwn_ap, eCall_ap, ioW, setIO, setD, ioOut, ioGet, toT_ap, toTr_ap, tfAnd_ap, tfOr_ap, tfNot_ap, tYesF_ap, eIf_ap, eAnd_ap, eOr_ap, eNot_ap, eMut_ap, pName_ap, pSub1_ap, hasP, hasT, tyD, storL, storable, getP, setP, opApp, opIns, opPop, opClear, opExt, opSet, putE, putV, freeze, frz1, newAll, allNew, Mode.frz, Mode.w, Mode.new, retOk, D.atom, D.atomL, D.flat, D.tru, D.node, D.items, D.isNon, gSet_ap, gsNil, gsCons, gTupE, gSeqE, bindN, putP, iSeq_ap, iRg_ap, iEnm_ap, rg1_ap, rg2_ap, eListRg_ap, oNone_ap, oSome_ap, eSlice_ap, pSlice, pTup_ap, pLst_ap, pI2, pNeg, pAdd, pMul, pEq_int, pEq_bl, pEq_str, pEq_nm, pEq_nil, pIsN, pIx, pLen, pAbs, pMin, pMax, pDivmod, pInt, pList, pTuple, pSumA, pAll, pAny, pIn_lst, pIn_tup, pIsi, D.tyn, isiB, flatD, keyD, Kind.S, wipeE, eDict0_ap, eDict1_ap, pGet, nm, atomL_app, atI_0, atI_1, atI_2, atI_3, lsD, intsD, j0, p1, p2, p3, p4, hx, hy, f1, f2, f3, sizeLine_eq, atomL_nm]
theorem way_turn {R0 : List Nat} {x6 : Option (Mode × D)} (h2 : n ≤ 9) (hps : ∀ q ∈ ps, q.1 < n ∧ q.2 < n) (hN : ∀ k ∈ N, k < ps.length) (S : Sr ps N n a al (R0 ++ [x]) fun _ _ => False) :
    ∃ al' R' x6' x7' x8' x9', Sr ps N n a al' R' (fun _ _ => False) ∧ R'.length + al.length = R0.length + al'.length ∧ al.length ≤ al'.length ∧ d_way_by_3 (wyE n ps N a b al (R0 ++ [x]) x6 x7 x8 x9) = some (.nx (wyE n ps N a b al' R' x6' x7' x8' x9')) := by
  let Pi : Nat → Nat → Nat → Prop := fun i u v => u = x ∧ ¬ ∃ j k q, j < i ∧ N[j]? = some k ∧ ps[k]? = some q ∧ ((q.1 = x ∧ q.2 = v) ∨ (q.1 = v ∧ q.2 = x))
  obtain ⟨w, hw⟩ : ∃ w, (x, w) ∈ al := by
    obtain ⟨p, hp, e⟩ := List.mem_map.mp (S.hR x (by simp))
    exact ⟨p.2, by rw [← e]; exact hp⟩
  obtain ⟨E', e1, al', R', x7', x8', x9', S', w', l1, l2, rfl⟩ := forL_inv (g := gSet (.pr false) 7) (b := d_way_by_1) (ds := N.map nm) (E := wyE n ps N a b al R0 (some (.own, nm x)) x7 x8 x9)
    (fun i E => ∃ al' R' x7' x8' x9', Sr ps N n a al' R' (Pi i) ∧ (x, w) ∈ al' ∧ R'.length + al.length = R0.length + al'.length ∧ al.length ≤ al'.length ∧ E = wyE n ps N a b al' R' (some (.own, nm x)) x7' x8' x9')
    ⟨al, R0, x7, x8, x9, S.pop.imp (fun u v _ _ _ h => .inr ⟨h.elim (fun z => z.elim) id, fun ⟨j, _, _, hj, _⟩ => absurd hj (Nat.not_lt_zero _)⟩), hw, rfl, Nat.le_refl _, rfl⟩ (by
      rintro i d E hd ⟨al', R', x7', x8', x9', S', w', l1, l2, rfl⟩
      rw [List.getElem?_map] at hd
      cases hk : N[i]? with
      | none => rw [hk] at hd; cases hd
      | some k =>
        rw [hk] at hd
        cases hd
        have hkN := List.mem_of_getElem? hk
        obtain ⟨q, hq⟩ := get_ex (hN k hkN)
        have hqn := hps q (List.mem_of_getElem? hq)
        have hsz := S'.size
        have hRl := S'.hl
        have nxt : ∀ {al2 R2}, Sr ps N n a al2 R2 (Pi i) → (∀ v, ((q.1 = x ∧ q.2 = v) ∨ (q.1 = v ∧ q.2 = x)) → v ∈ al2.map (·.1)) → Sr ps N n a al2 R2 (Pi (i + 1)) := fun S2 hv => S2.imp fun u v _ _ _ h => by
          by_cases z : (q.1 = x ∧ q.2 = v) ∨ (q.1 = v ∧ q.2 = x)
          · exact .inl (hv v z)
          · refine .inr ⟨h.1, fun ⟨j, k', q', hj, hk', hq', hz⟩ => ?_⟩
            rcases Nat.lt_succ_iff_lt_or_eq.mp hj with hj | rfl
            · exact h.2 ⟨j, k', q', hj, hk', hq', hz⟩
            · rw [hk] at hk'
              cases hk'
              rw [hq] at hq'
              cases hq'
              exact z hz
        by_cases hx : x = q.1 ∨ x = q.2
        · obtain ⟨y, hy⟩ : ∃ y, (q.1 = x ∧ q.2 = y) ∨ (q.1 = y ∧ q.2 = x) := by
            rcases hx with hx | hx
            · exact ⟨q.2, .inl ⟨hx.symm, rfl⟩⟩
            · exact ⟨q.1, .inr ⟨rfl, hx.symm⟩⟩
          have uniq : ∀ v, ((q.1 = x ∧ q.2 = v) ∨ (q.1 = v ∧ q.2 = x)) → v = y := fun v hv => by omega
          by_cases hyk : y ∈ al'.map (·.1)
          · exact ⟨_, _, by simp [sl_eq, callD_ap, startE, sSeq_ap, sIf_ap, sSet_ap, sRet_ap, sRetN_ap, sDrop_ap, sAsg_ap, sPar2_ap, sFor_ap, sNext_ap, sSetIt_ap, sPairSet_ap, gSetIt_ap, eVar_ap, eC_ap, ePrim_ap, lCons_ap, lNil_ap, lRef_ap, eOwn_ap, eCall_ap, ioW, setIO, setD, ioOut, ioGet, toT_ap, toTr_ap, tfAnd_ap, tfOr_ap, tfNot_ap, tYesF_ap, eIf_ap, eAnd_ap, eOr_ap, eNot_ap, eMut_ap, pName_ap, pSub1_ap, hasP, hasT, tyD, storL, storable, getP, setP, opApp, opIns, opPop, opClear, opExt, opSet, putE, putV, freeze, frz1, newAll, allNew, Mode.frz, Mode.w, Mode.new, retOk, D.atom, D.atomL, D.flat, D.tru, D.node, D.items, D.isNon, gSet_ap, gsNil, gsCons, gTupE, gSeqE, bindN, putP, iSeq_ap, iRg_ap, iEnm_ap, rg1_ap, rg2_ap, eListRg_ap, oNone_ap, oSome_ap, eSlice_ap, pSlice, pTup_ap, pLst_ap, pI2, pNeg, pAdd, pMul, pEq_int, pEq_bl, pEq_str, pEq_nm, pEq_nil, pIsN, pIx, pLen, pAbs, pMin, pMax, pDivmod, pInt, pList, pTuple, pSumA, pAll, pAny, pIn_lst, pIn_tup, pIsi, D.tyn, isiB, flatD, keyD, Kind.S, wipeE, eDict0_ap, eDict1_ap, pGet, nm, atomL_app, atI_0, atI_1, atI_2, atI_3] <;> rfl, way_old (x8 := x8') (x9 := x9') S'.nd hq hy hyk, al', R', _, _, _, nxt S' (fun v hv => by rw [uniq v hv]; exact hyk), w', l1, l2, rfl⟩
          · have hwl := (S'.wk _ w').1
            simp at hwl
            refine ⟨_, _, by simp [sl_eq, callD_ap, startE, sSeq_ap, sIf_ap, sSet_ap, sRet_ap, sRetN_ap, sDrop_ap, sAsg_ap, sPar2_ap, sFor_ap, sNext_ap, sSetIt_ap, sPairSet_ap, gSetIt_ap, eVar_ap, eC_ap, ePrim_ap, lCons_ap, lNil_ap, lRef_ap, eOwn_ap, eCall_ap, ioW, setIO, setD, ioOut, ioGet, toT_ap, toTr_ap, tfAnd_ap, tfOr_ap, tfNot_ap, tYesF_ap, eIf_ap, eAnd_ap, eOr_ap, eNot_ap, eMut_ap, pName_ap, pSub1_ap, hasP, hasT, tyD, storL, storable, getP, setP, opApp, opIns, opPop, opClear, opExt, opSet, putE, putV, freeze, frz1, newAll, allNew, Mode.frz, Mode.w, Mode.new, retOk, D.atom, D.atomL, D.flat, D.tru, D.node, D.items, D.isNon, gSet_ap, gsNil, gsCons, gTupE, gSeqE, bindN, putP, iSeq_ap, iRg_ap, iEnm_ap, rg1_ap, rg2_ap, eListRg_ap, oNone_ap, oSome_ap, eSlice_ap, pSlice, pTup_ap, pLst_ap, pI2, pNeg, pAdd, pMul, pEq_int, pEq_bl, pEq_str, pEq_nm, pEq_nil, pIsN, pIx, pLen, pAbs, pMin, pMax, pDivmod, pInt, pList, pTuple, pSumA, pAll, pAny, pIn_lst, pIn_tup, pIsi, D.tyn, isiB, flatD, keyD, Kind.S, wipeE, eDict0_ap, eDict1_ap, pGet, nm, atomL_app, atI_0, atI_1, atI_2, atI_3] <;> rfl, way_new (x8 := x8') (x9 := x9') S'.nd w' (by omega) (by omega) (by omega) hq hy hyk, _, _, _, _, _, nxt (S'.more w' hkN hq hy (by omega) hyk) (fun v hv => by rw [uniq v hv]; simp), List.mem_append_left _ w', by simp; omega, by simp; omega, rfl⟩
        · exact ⟨_, _, by simp [sl_eq, callD_ap, startE, sSeq_ap, sIf_ap, sSet_ap, sRet_ap, sRetN_ap, sDrop_ap, sAsg_ap, sPar2_ap, sFor_ap, sNext_ap, sSetIt_ap, sPairSet_ap, gSetIt_ap, eVar_ap, eC_ap, ePrim_ap, lCons_ap, lNil_ap, lRef_ap, eOwn_ap, eCall_ap, ioW, setIO, setD, ioOut, ioGet, toT_ap, toTr_ap, tfAnd_ap, tfOr_ap, tfNot_ap, tYesF_ap, eIf_ap, eAnd_ap, eOr_ap, eNot_ap, eMut_ap, pName_ap, pSub1_ap, hasP, hasT, tyD, storL, storable, getP, setP, opApp, opIns, opPop, opClear, opExt, opSet, putE, putV, freeze, frz1, newAll, allNew, Mode.frz, Mode.w, Mode.new, retOk, D.atom, D.atomL, D.flat, D.tru, D.node, D.items, D.isNon, gSet_ap, gsNil, gsCons, gTupE, gSeqE, bindN, putP, iSeq_ap, iRg_ap, iEnm_ap, rg1_ap, rg2_ap, eListRg_ap, oNone_ap, oSome_ap, eSlice_ap, pSlice, pTup_ap, pLst_ap, pI2, pNeg, pAdd, pMul, pEq_int, pEq_bl, pEq_str, pEq_nm, pEq_nil, pIsN, pIx, pLen, pAbs, pMin, pMax, pDivmod, pInt, pList, pTuple, pSumA, pAll, pAny, pIn_lst, pIn_tup, pIsi, D.tyn, isiB, flatD, keyD, Kind.S, wipeE, eDict0_ap, eDict1_ap, pGet, nm, atomL_app, atI_0, atI_1, atI_2, atI_3] <;> rfl, way_far (x8 := x8') (x9 := x9') hq hx, al', R', _, _, _, nxt S' (fun v hv => by omega), w', l1, l2, rfl⟩)
  refine ⟨al', R', some (.own, nm x), x7', x8', x9', S'.imp (fun u v _ _ ad h => ?_), l1, l2, ?_⟩
  · obtain ⟨k, hk, q, hq, hz⟩ := ad
    obtain ⟨j, hj, e⟩ := List.mem_iff_getElem.mp hk
    rw [h.1] at hz
    exact absurd ⟨j, k, q, by rw [List.length_map]; exact hj, by rw [List.getElem?_eq_getElem hj, e], hq, hz⟩ h.2
  · simp [nm, wyE, lsD] at e1
    simp [d_way_by_3, sl_eq, callD_ap, startE, sSeq_ap, sIf_ap, sSet_ap, sRet_ap, sRetN_ap, sDrop_ap, sAsg_ap, sPar2_ap, sFor_ap, sNext_ap, sSetIt_ap, sPairSet_ap, gSetIt_ap, eVar_ap, eC_ap, ePrim_ap, lCons_ap, lNil_ap, lRef_ap, eOwn_ap, eCall_ap, ioW, setIO, setD, ioOut, ioGet, toT_ap, toTr_ap, tfAnd_ap, tfOr_ap, tfNot_ap, tYesF_ap, eIf_ap, eAnd_ap, eOr_ap, eNot_ap, eMut_ap, pName_ap, pSub1_ap, hasP, hasT, tyD, storL, storable, getP, setP, opApp, opIns, opPop, opClear, opExt, opSet, putE, putV, freeze, frz1, newAll, allNew, Mode.frz, Mode.w, Mode.new, retOk, D.atom, D.atomL, D.flat, D.tru, D.node, D.items, D.isNon, gSet_ap, gsNil, gsCons, gTupE, gSeqE, bindN, putP, iSeq_ap, iRg_ap, iEnm_ap, rg1_ap, rg2_ap, eListRg_ap, oNone_ap, oSome_ap, eSlice_ap, pSlice, pTup_ap, pLst_ap, pI2, pNeg, pAdd, pMul, pEq_int, pEq_bl, pEq_str, pEq_nm, pEq_nil, pIsN, pIx, pLen, pAbs, pMin, pMax, pDivmod, pInt, pList, pTuple, pSumA, pAll, pAny, pIn_lst, pIn_tup, pIsi, D.tyn, isiB, flatD, keyD, Kind.S, wipeE, eDict0_ap, eDict1_ap, pGet, nm, atomL_app, atI_0, atI_1, atI_2, atI_3, lsD, e1]
end
theorem way_ok {n : Nat} {ps : List (Nat × Nat)} {N : List Nat} {a b : Nat} (h2 : n ≤ 9) (hps : ∀ q ∈ ps, q.1 < n ∧ q.2 < n) (hN : ∀ k ∈ N, k < ps.length) (ha : a < n) :
    ∃ d, f_way_by [webD n ps, lsD N, nm a, nm b] = some (d, []) ∧ ((d = .non ∧ ¬ Cn ps N a b) ∨ ∃ w vs, d = lsD w ∧ Wk ps N a b w vs ∧ w.length ≤ 9) := by
  obtain ⟨E', e1, al, R, x6, x7, x8, x9, S, hz, rfl⟩ := sWhile_ind (t := d_way_by_2) (bd := d_way_by_3)
    (fun m E => ∃ al R x6 x7 x8 x9, Sr ps N n a al R (fun _ _ => False) ∧ m = 2 * (n - al.length) + R.length ∧ E = wyE n ps N a b al R x6 x7 x8 x9)
    (fun E => ∃ al R x6 x7 x8 x9, Sr ps N n a al R (fun _ _ => False) ∧ (R = [] ∨ b ∈ al.map (·.1)) ∧ E = wyE n ps N a b al R x6 x7 x8 x9)
    (by
      rintro m E ⟨al, R, x6, x7, x8, x9, S, rfl, rfl⟩
      have p2 := pIn_dk true b S.nd
      by_cases z1 : R = []
      · subst z1
        exact .inl ⟨_, by simp [d_way_by_2, sl_eq, callD_ap, startE, sSeq_ap, sIf_ap, sSet_ap, sRet_ap, sRetN_ap, sDrop_ap, sAsg_ap, sPar2_ap, sFor_ap, sNext_ap, sSetIt_ap, sPairSet_ap, gSetIt_ap, eVar_ap, eC_ap, ePrim_ap, lCons_ap, lNil_ap, lRef_ap, eOwn_ap, eCall_ap, ioW, setIO, setD, ioOut, ioGet, toT_ap, toTr_ap, tfAnd_ap, tfOr_ap, tfNot_ap, tYesF_ap, eIf_ap, eAnd_ap, eOr_ap, eNot_ap, eMut_ap, pName_ap, pSub1_ap, hasP, hasT, tyD, storL, storable, getP, setP, opApp, opIns, opPop, opClear, opExt, opSet, putE, putV, freeze, frz1, newAll, allNew, Mode.frz, Mode.w, Mode.new, retOk, D.atom, D.atomL, D.flat, D.tru, D.node, D.items, D.isNon, gSet_ap, gsNil, gsCons, gTupE, gSeqE, bindN, putP, iSeq_ap, iRg_ap, iEnm_ap, rg1_ap, rg2_ap, eListRg_ap, oNone_ap, oSome_ap, eSlice_ap, pSlice, pTup_ap, pLst_ap, pI2, pNeg, pAdd, pMul, pEq_int, pEq_bl, pEq_str, pEq_nm, pEq_nil, pIsN, pIx, pLen, pAbs, pMin, pMax, pDivmod, pInt, pList, pTuple, pSumA, pAll, pAny, pIn_lst, pIn_tup, pIsi, D.tyn, isiB, flatD, keyD, Kind.S, wipeE, eDict0_ap, eDict1_ap, pGet, nm, atomL_app, atI_0, atI_1, atI_2, atI_3, lsD] <;> rfl, al, [], x6, x7, x8, x9, S, .inl rfl, rfl⟩
      · have z1' : R.isEmpty = false := by simpa using z1
        by_cases z2 : b ∈ al.map (·.1)
        · simp only [decide_eq_true z2] at p2
          exact .inl ⟨wyE n ps N a b al R x6 x7 x8 x9, by simp [d_way_by_2, sl_eq, callD_ap, startE, sSeq_ap, sIf_ap, sSet_ap, sRet_ap, sRetN_ap, sDrop_ap, sAsg_ap, sPar2_ap, sFor_ap, sNext_ap, sSetIt_ap, sPairSet_ap, gSetIt_ap, eVar_ap, eC_ap, ePrim_ap, lCons_ap, lNil_ap, lRef_ap, eOwn_ap, eCall_ap, ioW, setIO, setD, ioOut, ioGet, toT_ap, toTr_ap, tfAnd_ap, tfOr_ap, tfNot_ap, tYesF_ap, eIf_ap, eAnd_ap, eOr_ap, eNot_ap, eMut_ap, pName_ap, pSub1_ap, hasP, hasT, tyD, storL, storable, getP, setP, opApp, opIns, opPop, opClear, opExt, opSet, putE, putV, freeze, frz1, newAll, allNew, Mode.frz, Mode.w, Mode.new, retOk, D.atom, D.atomL, D.flat, D.tru, D.node, D.items, D.isNon, gSet_ap, gsNil, gsCons, gTupE, gSeqE, bindN, putP, iSeq_ap, iRg_ap, iEnm_ap, rg1_ap, rg2_ap, eListRg_ap, oNone_ap, oSome_ap, eSlice_ap, pSlice, pTup_ap, pLst_ap, pI2, pNeg, pAdd, pMul, pEq_int, pEq_bl, pEq_str, pEq_nm, pEq_nil, pIsN, pIx, pLen, pAbs, pMin, pMax, pDivmod, pInt, pList, pTuple, pSumA, pAll, pAny, pIn_lst, pIn_tup, pIsi, D.tyn, isiB, flatD, keyD, Kind.S, wipeE, eDict0_ap, eDict1_ap, pGet, nm, atomL_app, atI_0, atI_1, atI_2, atI_3, lsD, z1', p2], al, R, x6, x7, x8, x9, S, .inr z2, rfl⟩
        · simp only [decide_eq_false z2] at p2
          obtain ⟨R0, x, rfl⟩ : ∃ R0 x, R = R0 ++ [x] := by
            rcases List.eq_nil_or_concat R with h | ⟨R0, x, h⟩
            · exact absurd h z1
            · exact ⟨R0, x, by rw [h, List.concat_eq_append]⟩
          obtain ⟨al', R', x6', x7', x8', x9', S', l1, l2, e⟩ := way_turn (b := b) (x6 := x6) (x7 := x7) (x8 := x8) (x9 := x9) h2 hps hN S
          have s1 := S'.size
          have z3 : (List.map nm R0 ++ [D.int (x : Int)]).isEmpty = false := by cases R0 <;> rfl
          refine .inr ⟨wyE n ps N a b al (R0 ++ [x]) x6 x7 x8 x9, _, _, ?_, by simp [d_way_by_2, sl_eq, callD_ap, startE, sSeq_ap, sIf_ap, sSet_ap, sRet_ap, sRetN_ap, sDrop_ap, sAsg_ap, sPar2_ap, sFor_ap, sNext_ap, sSetIt_ap, sPairSet_ap, gSetIt_ap, eVar_ap, eC_ap, ePrim_ap, lCons_ap, lNil_ap, lRef_ap, eOwn_ap, eCall_ap, ioW, setIO, setD, ioOut, ioGet, toT_ap, toTr_ap, tfAnd_ap, tfOr_ap, tfNot_ap, tYesF_ap, eIf_ap, eAnd_ap, eOr_ap, eNot_ap, eMut_ap, pName_ap, pSub1_ap, hasP, hasT, tyD, storL, storable, getP, setP, opApp, opIns, opPop, opClear, opExt, opSet, putE, putV, freeze, frz1, newAll, allNew, Mode.frz, Mode.w, Mode.new, retOk, D.atom, D.atomL, D.flat, D.tru, D.node, D.items, D.isNon, gSet_ap, gsNil, gsCons, gTupE, gSeqE, bindN, putP, iSeq_ap, iRg_ap, iEnm_ap, rg1_ap, rg2_ap, eListRg_ap, oNone_ap, oSome_ap, eSlice_ap, pSlice, pTup_ap, pLst_ap, pI2, pNeg, pAdd, pMul, pEq_int, pEq_bl, pEq_str, pEq_nm, pEq_nil, pIsN, pIx, pLen, pAbs, pMin, pMax, pDivmod, pInt, pList, pTuple, pSumA, pAll, pAny, pIn_lst, pIn_tup, pIsi, D.tyn, isiB, flatD, keyD, Kind.S, wipeE, eDict0_ap, eDict1_ap, pGet, nm, atomL_app, atI_0, atI_1, atI_2, atI_3, lsD, z3, p2], e, al', R', x6', x7', x8', x9', S', rfl, rfl⟩
          simp
          omega)
    (m := 2 * (n - 1) + 1) (E := wyE n ps N a b [(a, [])] [a] none none none none) ⟨[(a, [])], [a], none, none, none, none, Sr.start ha, rfl, rfl⟩
  simp [nm, wyE, lsD] at e1
  by_cases hb : b ∈ al.map (·.1)
  · obtain ⟨p, hp, e⟩ := List.mem_map.mp hb
    obtain ⟨hl, vs, h3, _⟩ := S.wk p hp
    have s1 := S.size
    have p3 := atK_some (x := b) (w := p.2) S.nd (by rw [← e]; exact hp)
    refine ⟨lsD p.2, ?_, .inr ⟨p.2, vs, rfl, by rw [← e]; exact h3, by omega⟩⟩
    simp [f_way_by, d_way_by, sl_eq, callD_ap, startE, sSeq_ap, sIf_ap, sSet_ap, sRet_ap, sRetN_ap, sDrop_ap, sAsg_ap, sPar2_ap, sFor_ap, sNext_ap, sSetIt_ap, sPairSet_ap, gSetIt_ap, eVar_ap, eC_ap, ePrim_ap, lCons_ap, lNil_ap, lRef_ap, eOwn_ap, eCall_ap, ioW, setIO, setD, ioOut, ioGet, toT_ap, toTr_ap, tfAnd_ap, tfOr_ap, tfNot_ap, tYesF_ap, eIf_ap, eAnd_ap, eOr_ap, eNot_ap, eMut_ap, pName_ap, pSub1_ap, hasP, hasT, tyD, storL, storable, getP, setP, opApp, opIns, opPop, opClear, opExt, opSet, putE, putV, freeze, frz1, newAll, allNew, Mode.frz, Mode.w, Mode.new, retOk, D.atom, D.atomL, D.flat, D.tru, D.node, D.items, D.isNon, gSet_ap, gsNil, gsCons, gTupE, gSeqE, bindN, putP, iSeq_ap, iRg_ap, iEnm_ap, rg1_ap, rg2_ap, eListRg_ap, oNone_ap, oSome_ap, eSlice_ap, pSlice, pTup_ap, pLst_ap, pI2, pNeg, pAdd, pMul, pEq_int, pEq_bl, pEq_str, pEq_nm, pEq_nil, pIsN, pIx, pLen, pAbs, pMin, pMax, pDivmod, pInt, pList, pTuple, pSumA, pAll, pAny, pIn_lst, pIn_tup, pIsi, D.tyn, isiB, flatD, keyD, Kind.S, wipeE, eDict0_ap, eDict1_ap, pGet, nm, atomL_app, atI_0, atI_1, atI_2, atI_3, lsD, e1, p3, sizeLine_eq, atomL_nm]
  · have p3 := atK_none (x := b) hb
    have hR : R = [] := hz.resolve_right hb
    refine ⟨.non, ?_, .inl ⟨rfl, fun c => hb (c.closed (K := fun y => y ∈ al.map (·.1)) S.ha fun u v hu ad => (S.cl u hu (by rw [hR]; simp) v ad).elim id fun z => z.elim)⟩⟩
    simp [f_way_by, d_way_by, sl_eq, callD_ap, startE, sSeq_ap, sIf_ap, sSet_ap, sRet_ap, sRetN_ap, sDrop_ap, sAsg_ap, sPar2_ap, sFor_ap, sNext_ap, sSetIt_ap, sPairSet_ap, gSetIt_ap, eVar_ap, eC_ap, ePrim_ap, lCons_ap, lNil_ap, lRef_ap, eOwn_ap, eCall_ap, ioW, setIO, setD, ioOut, ioGet, toT_ap, toTr_ap, tfAnd_ap, tfOr_ap, tfNot_ap, tYesF_ap, eIf_ap, eAnd_ap, eOr_ap, eNot_ap, eMut_ap, pName_ap, pSub1_ap, hasP, hasT, tyD, storL, storable, getP, setP, opApp, opIns, opPop, opClear, opExt, opSet, putE, putV, freeze, frz1, newAll, allNew, Mode.frz, Mode.w, Mode.new, retOk, D.atom, D.atomL, D.flat, D.tru, D.node, D.items, D.isNon, gSet_ap, gsNil, gsCons, gTupE, gSeqE, bindN, putP, iSeq_ap, iRg_ap, iEnm_ap, rg1_ap, rg2_ap, eListRg_ap, oNone_ap, oSome_ap, eSlice_ap, pSlice, pTup_ap, pLst_ap, pI2, pNeg, pAdd, pMul, pEq_int, pEq_bl, pEq_str, pEq_nm, pEq_nil, pIsN, pIx, pLen, pAbs, pMin, pMax, pDivmod, pInt, pList, pTuple, pSumA, pAll, pAny, pIn_lst, pIn_tup, pIsi, D.tyn, isiB, flatD, keyD, Kind.S, wipeE, eDict0_ap, eDict1_ap, pGet, nm, atomL_app, atI_0, atI_1, atI_2, atI_3, lsD, e1, p3, sizeLine_eq, atomL_nm]
end VL
set_option maxHeartbeats 4000000
namespace VL
open PySem PySem.Spec PyProof.Rows L2
abbrev rgE (n : Nat) (ps : List (Nat × Nat)) (NU : D) (W : List Nat) (x3 x4 x5 x6 : Option (Mode × D)) : Env := [some (.arg, webD n ps), some (.arg, NU), some (.own, lsD W), x3, x4, x5, x6]
section
variable {n : Nat} {ps : List (Nat × Nat)} {N : List Nat} {NU : D}
theorem ring_ok (h2 : n ≤ 9) (hps : ∀ q ∈ ps, q.1 < n ∧ q.2 < n) (hN : ∀ k ∈ N, k < ps.length) (hl : N.length ≤ 60) (hNU : NU = lsD N ∨ NU = .tup (N.map nm)) :
    ∃ d, f_ring_in [webD n ps, NU] = some (d, []) ∧ ((d = .non ∧ Free ps N N.length) ∨ ∃ i k q w vs, d = lsD (k :: w) ∧ N[i]? = some k ∧ ps[k]? = some q ∧ Free ps N i ∧ Wk ps (N.take i) q.2 q.1 w vs) := by
  rcases forL_gen (g := gSet (.pr false) 3) (b := d_ring_in_1) (ds := N.map nm) (E := rgE n ps NU [] none none none none)
    (fun i E => ∃ x3 x4 x5 x6, Free ps N i ∧ E = rgE n ps NU (N.take i) x3 x4 x5 x6)
    (fun r E => ∃ i k q w vs, r = lsD (k :: w) ∧ N[i]? = some k ∧ ps[k]? = some q ∧ Free ps N i ∧ Wk ps (N.take i) q.2 q.1 w vs)
    ⟨none, none, none, none, fun i hi => absurd hi (Nat.not_lt_zero _), rfl⟩ (by
      rintro i d E hd ⟨x3, x4, x5, x6, fr, rfl⟩
      rw [List.getElem?_map] at hd
      cases hk : N[i]? with
      | none => rw [hk] at hd; cases hd
      | some k =>
        rw [hk] at hd
        cases hd
        have hkN := List.mem_of_getElem? hk
        have hil : i < N.length := (List.getElem?_eq_some_iff.mp hk).1
        obtain ⟨q, hq⟩ := get_ex (hN k hkN)
        have hqn := hps q (List.mem_of_getElem? hq)
        have hT : ∀ k ∈ N.take i, k < ps.length := fun k hk => hN k (List.mem_of_mem_take hk)
        have hTl : (N.take i).length = i := by simp; omega
        have hTs : N.take (i + 1) = N.take i ++ [k] := by rw [List.take_succ, hk]; rfl
        generalize hTn : N.take i = T at hT hTl hTs
        obtain ⟨d, e1, h⟩ := way_ok (b := q.1) (N := T) h2 hps hT hqn.2
        have j0 := atI_nat (ps.map ln) k
        rw [List.getElem?_map, hq] at j0
        simp only [Option.map_some] at j0
        refine ⟨rgE n ps NU T (some (.own, nm k)) x4 x5 x6, by simp [sl_eq, callD_ap, startE, sSeq_ap, sIf_ap, sSet_ap, sRet_ap, sRetN_ap, sDrop_ap, sAsg_ap, sPar2_ap, sFor_ap, sNext_ap, sSetIt_ap, sPairSet_ap, gSetIt_ap, eVar_ap, eC_ap, ePrim_ap, lCons_ap, lNil_ap, lRef_ap, eOwn_ap, eCall_ap, ioW, setIO, setD, ioOut, ioGet, toT_ap, toTr_ap, tfAnd_ap, tfOr_ap, tfNot_ap, tYesF_ap, eIf_ap, eAnd_ap, eOr_ap, eNot_ap, eMut_ap, pName_ap, pSub1_ap, hasP, hasT, tyD, storL, storable, getP, setP, opApp, opIns, opPop, opClear, opExt, opSet, putE, putV, freeze, frz1, newAll, allNew, Mode.frz, Mode.w, Mode.new, retOk, D.atom, D.atomL, D.flat, D.tru, D.node, D.items, D.isNon, gSet_ap, gsNil, gsCons, gTupE, gSeqE, bindN, putP, iSeq_ap, iRg_ap, iEnm_ap, rg1_ap, rg2_ap, eListRg_ap, oNone_ap, oSome_ap, eSlice_ap, pSlice, pTup_ap, pLst_ap, pI2, pNeg, pAdd, pMul, pEq_int, pEq_bl, pEq_str, pEq_nm, pEq_nil, pIsN, pIx, pLen, pAbs, pMin, pMax, pDivmod, pInt, pList, pTuple, pSumA, pAll, pAny, pIn_lst, pIn_tup, pIsi, D.tyn, isiB, flatD, keyD, Kind.S, wipeE, eDict0_ap, eDict1_ap, pGet, nm, atomL_app, atI_0, atI_1, atI_2, atI_3], ?_⟩
        simp [nm, lsD] at e1
        have f1 : T.length < 16777216 := by omega
        rcases h with ⟨rfl, hc⟩ | ⟨w, vs, rfl, hw, hwl⟩
        · refine .inl ⟨rgE n ps NU (T ++ [k]) (some (.own, nm k)) (some (.own, nm q.1)) (some (.own, nm q.2)) (some (.own, .non)), ?_, _, _, _, _, ?_, by rw [hTs]⟩
          · simp [d_ring_in_1, sl_eq, callD_ap, startE, sSeq_ap, sIf_ap, sSet_ap, sRet_ap, sRetN_ap, sDrop_ap, sAsg_ap, sPar2_ap, sFor_ap, sNext_ap, sSetIt_ap, sPairSet_ap, gSetIt_ap, eVar_ap, eC_ap, ePrim_ap, lCons_ap, lNil_ap, lRef_ap, eOwn_ap, eCall_ap, ioW, setIO, setD, ioOut, ioGet, toT_ap, toTr_ap, tfAnd_ap, tfOr_ap, tfNot_ap, tYesF_ap, eIf_ap, eAnd_ap, eOr_ap, eNot_ap, eMut_ap, pName_ap, pSub1_ap, hasP, hasT, tyD, storL, storable, getP, setP, opApp, opIns, opPop, opClear, opExt, opSet, putE, putV, freeze, frz1, newAll, allNew, Mode.frz, Mode.w, Mode.new, retOk, D.atom, D.atomL, D.flat, D.tru, D.node, D.items, D.isNon, gSet_ap, gsNil, gsCons, gTupE, gSeqE, bindN, putP, iSeq_ap, iRg_ap, iEnm_ap, rg1_ap, rg2_ap, eListRg_ap, oNone_ap, oSome_ap, eSlice_ap, pSlice, pTup_ap, pLst_ap, pI2, pNeg, pAdd, pMul, pEq_int, pEq_bl, pEq_str, pEq_nm, pEq_nil, pIsN, pIx, pLen, pAbs, pMin, pMax, pDivmod, pInt, pList, pTuple, pSumA, pAll, pAny, pIn_lst, pIn_tup, pIsi, D.tyn, isiB, flatD, keyD, Kind.S, wipeE, eDict0_ap, eDict1_ap, pGet, nm, atomL_app, atI_0, atI_1, atI_2, atI_3, lsD, j0, e1, f1, sizeLine_eq]
          · exact (Free.succ hk hq).mpr ⟨fr, by rw [hTn]; exact fun c => hc c.symm⟩
        · have f2 : 1 + w.length ≤ 16777216 := by omega
          refine .inr ⟨lsD (k :: w), rgE n ps NU T (some (.own, nm k)) (some (.own, nm q.1)) (some (.own, nm q.2)) (some (.own, lsD w)), ?_, i, k, q, w, vs, rfl, hk, hq, fr, by rw [hTn]; exact hw⟩
          simp [d_ring_in_1, sl_eq, callD_ap, startE, sSeq_ap, sIf_ap, sSet_ap, sRet_ap, sRetN_ap, sDrop_ap, sAsg_ap, sPar2_ap, sFor_ap, sNext_ap, sSetIt_ap, sPairSet_ap, gSetIt_ap, eVar_ap, eC_ap, ePrim_ap, lCons_ap, lNil_ap, lRef_ap, eOwn_ap, eCall_ap, ioW, setIO, setD, ioOut, ioGet, toT_ap, toTr_ap, tfAnd_ap, tfOr_ap, tfNot_ap, tYesF_ap, eIf_ap, eAnd_ap, eOr_ap, eNot_ap, eMut_ap, pName_ap, pSub1_ap, hasP, hasT, tyD, storL, storable, getP, setP, opApp, opIns, opPop, opClear, opExt, opSet, putE, putV, freeze, frz1, newAll, allNew, Mode.frz, Mode.w, Mode.new, retOk, D.atom, D.atomL, D.flat, D.tru, D.node, D.items, D.isNon, gSet_ap, gsNil, gsCons, gTupE, gSeqE, bindN, putP, iSeq_ap, iRg_ap, iEnm_ap, rg1_ap, rg2_ap, eListRg_ap, oNone_ap, oSome_ap, eSlice_ap, pSlice, pTup_ap, pLst_ap, pI2, pNeg, pAdd, pMul, pEq_int, pEq_bl, pEq_str, pEq_nm, pEq_nil, pIsN, pIx, pLen, pAbs, pMin, pMax, pDivmod, pInt, pList, pTuple, pSumA, pAll, pAny, pIn_lst, pIn_tup, pIsi, D.tyn, isiB, flatD, keyD, Kind.S, wipeE, eDict0_ap, eDict1_ap, pGet, nm, atomL_app, atI_0, atI_1, atI_2, atI_3, lsD, j0, e1, f1, f2, sizeLine_eq, atomL_nm])
    with ⟨E', e1, x3, x4, x5, x6, fr, rfl⟩ | ⟨r, E', e1, h⟩
  · rw [List.length_map] at fr
    refine ⟨.non, ?_, .inl ⟨rfl, fr⟩⟩
    rcases hNU with rfl | rfl
    · simp [nm, rgE, lsD] at e1
      simp [f_ring_in, d_ring_in, sl_eq, callD_ap, startE, sSeq_ap, sIf_ap, sSet_ap, sRet_ap, sRetN_ap, sDrop_ap, sAsg_ap, sPar2_ap, sFor_ap, sNext_ap, sSetIt_ap, sPairSet_ap, gSetIt_ap, eVar_ap, eC_ap, ePrim_ap, lCons_ap, lNil_ap, lRef_ap, eOwn_ap, eCall_ap, ioW, setIO, setD, ioOut, ioGet, toT_ap, toTr_ap, tfAnd_ap, tfOr_ap, tfNot_ap, tYesF_ap, eIf_ap, eAnd_ap, eOr_ap, eNot_ap, eMut_ap, pName_ap, pSub1_ap, hasP, hasT, tyD, storL, storable, getP, setP, opApp, opIns, opPop, opClear, opExt, opSet, putE, putV, freeze, frz1, newAll, allNew, Mode.frz, Mode.w, Mode.new, retOk, D.atom, D.atomL, D.flat, D.tru, D.node, D.items, D.isNon, gSet_ap, gsNil, gsCons, gTupE, gSeqE, bindN, putP, iSeq_ap, iRg_ap, iEnm_ap, rg1_ap, rg2_ap, eListRg_ap, oNone_ap, oSome_ap, eSlice_ap, pSlice, pTup_ap, pLst_ap, pI2, pNeg, pAdd, pMul, pEq_int, pEq_bl, pEq_str, pEq_nm, pEq_nil, pIsN, pIx, pLen, pAbs, pMin, pMax, pDivmod, pInt, pList, pTuple, pSumA, pAll, pAny, pIn_lst, pIn_tup, pIsi, D.tyn, isiB, flatD, keyD, Kind.S, wipeE, eDict0_ap, eDict1_ap, pGet, nm, atomL_app, atI_0, atI_1, atI_2, atI_3, lsD, e1, sizeLine_eq]
    · simp [nm, rgE, lsD] at e1
      simp [f_ring_in, d_ring_in, sl_eq, callD_ap, startE, sSeq_ap, sIf_ap, sSet_ap, sRet_ap, sRetN_ap, sDrop_ap, sAsg_ap, sPar2_ap, sFor_ap, sNext_ap, sSetIt_ap, sPairSet_ap, gSetIt_ap, eVar_ap, eC_ap, ePrim_ap, lCons_ap, lNil_ap, lRef_ap, eOwn_ap, eCall_ap, ioW, setIO, setD, ioOut, ioGet, toT_ap, toTr_ap, tfAnd_ap, tfOr_ap, tfNot_ap, tYesF_ap, eIf_ap, eAnd_ap, eOr_ap, eNot_ap, eMut_ap, pName_ap, pSub1_ap, hasP, hasT, tyD, storL, storable, getP, setP, opApp, opIns, opPop, opClear, opExt, opSet, putE, putV, freeze, frz1, newAll, allNew, Mode.frz, Mode.w, Mode.new, retOk, D.atom, D.atomL, D.flat, D.tru, D.node, D.items, D.isNon, gSet_ap, gsNil, gsCons, gTupE, gSeqE, bindN, putP, iSeq_ap, iRg_ap, iEnm_ap, rg1_ap, rg2_ap, eListRg_ap, oNone_ap, oSome_ap, eSlice_ap, pSlice, pTup_ap, pLst_ap, pI2, pNeg, pAdd, pMul, pEq_int, pEq_bl, pEq_str, pEq_nm, pEq_nil, pIsN, pIx, pLen, pAbs, pMin, pMax, pDivmod, pInt, pList, pTuple, pSumA, pAll, pAny, pIn_lst, pIn_tup, pIsi, D.tyn, isiB, flatD, keyD, Kind.S, wipeE, eDict0_ap, eDict1_ap, pGet, nm, atomL_app, atI_0, atI_1, atI_2, atI_3, lsD, e1, sizeLine_eq]
  · refine ⟨r, ?_, .inr h⟩
    rcases hNU with rfl | rfl
    · simp [nm, rgE, lsD] at e1
      simp [f_ring_in, d_ring_in, sl_eq, callD_ap, startE, sSeq_ap, sIf_ap, sSet_ap, sRet_ap, sRetN_ap, sDrop_ap, sAsg_ap, sPar2_ap, sFor_ap, sNext_ap, sSetIt_ap, sPairSet_ap, gSetIt_ap, eVar_ap, eC_ap, ePrim_ap, lCons_ap, lNil_ap, lRef_ap, eOwn_ap, eCall_ap, ioW, setIO, setD, ioOut, ioGet, toT_ap, toTr_ap, tfAnd_ap, tfOr_ap, tfNot_ap, tYesF_ap, eIf_ap, eAnd_ap, eOr_ap, eNot_ap, eMut_ap, pName_ap, pSub1_ap, hasP, hasT, tyD, storL, storable, getP, setP, opApp, opIns, opPop, opClear, opExt, opSet, putE, putV, freeze, frz1, newAll, allNew, Mode.frz, Mode.w, Mode.new, retOk, D.atom, D.atomL, D.flat, D.tru, D.node, D.items, D.isNon, gSet_ap, gsNil, gsCons, gTupE, gSeqE, bindN, putP, iSeq_ap, iRg_ap, iEnm_ap, rg1_ap, rg2_ap, eListRg_ap, oNone_ap, oSome_ap, eSlice_ap, pSlice, pTup_ap, pLst_ap, pI2, pNeg, pAdd, pMul, pEq_int, pEq_bl, pEq_str, pEq_nm, pEq_nil, pIsN, pIx, pLen, pAbs, pMin, pMax, pDivmod, pInt, pList, pTuple, pSumA, pAll, pAny, pIn_lst, pIn_tup, pIsi, D.tyn, isiB, flatD, keyD, Kind.S, wipeE, eDict0_ap, eDict1_ap, pGet, nm, atomL_app, atI_0, atI_1, atI_2, atI_3, lsD, e1, sizeLine_eq]
    · simp [nm, rgE, lsD] at e1
      simp [f_ring_in, d_ring_in, sl_eq, callD_ap, startE, sSeq_ap, sIf_ap, sSet_ap, sRet_ap, sRetN_ap, sDrop_ap, sAsg_ap, sPar2_ap, sFor_ap, sNext_ap, sSetIt_ap, sPairSet_ap, gSetIt_ap, eVar_ap, eC_ap, ePrim_ap, lCons_ap, lNil_ap, lRef_ap, eOwn_ap, eCall_ap, ioW, setIO, setD, ioOut, ioGet, toT_ap, toTr_ap, tfAnd_ap, tfOr_ap, tfNot_ap, tYesF_ap, eIf_ap, eAnd_ap, eOr_ap, eNot_ap, eMut_ap, pName_ap, pSub1_ap, hasP, hasT, tyD, storL, storable, getP, setP, opApp, opIns, opPop, opClear, opExt, opSet, putE, putV, freeze, frz1, newAll, allNew, Mode.frz, Mode.w, Mode.new, retOk, D.atom, D.atomL, D.flat, D.tru, D.node, D.items, D.isNon, gSet_ap, gsNil, gsCons, gTupE, gSeqE, bindN, putP, iSeq_ap, iRg_ap, iEnm_ap, rg1_ap, rg2_ap, eListRg_ap, oNone_ap, oSome_ap, eSlice_ap, pSlice, pTup_ap, pLst_ap, pI2, pNeg, pAdd, pMul, pEq_int, pEq_bl, pEq_str, pEq_nm, pEq_nil, pIsN, pIx, pLen, pAbs, pMin, pMax, pDivmod, pInt, pList, pTuple, pSumA, pAll, pAny, pIn_lst, pIn_tup, pIsi, D.tyn, isiB, flatD, keyD, Kind.S, wipeE, eDict0_ap, eDict1_ap, pGet, nm, atomL_app, atI_0, atI_1, atI_2, atI_3, lsD, e1, sizeLine_eq]
theorem isw_ok (h2 : n ≤ 9) (hps : ∀ q ∈ ps, q.1 < n ∧ q.2 < n) (hN : ∀ k ∈ N, k < ps.length) (hl : N.length ≤ 60) (hNU : NU = lsD N ∨ NU = .tup (N.map nm)) :
    ∃ c : Bool, f_is_wood [webD n ps, NU] = some (.bl c, []) ∧ (c = true ↔ Free ps N N.length) := by
  obtain ⟨d, e1, h⟩ := ring_ok h2 hps hN hl hNU
  rcases h with ⟨rfl, fr⟩ | ⟨i, k, q, w, vs, rfl, hk, hq, fr, hw⟩
  · exact ⟨true, by simp [f_is_wood, d_is_wood, sl_eq, callD_ap, startE, sSeq_ap, sIf_ap, sSet_ap, sRet_ap, sRetN_ap, sDrop_ap, sAsg_ap, sPar2_ap, sFor_ap, sNext_ap, sSetIt_ap, sPairSet_ap, gSetIt_ap, eVar_ap, eC_ap, ePrim_ap, lCons_ap, lNil_ap, lRef_ap, eOwn_ap, eCall_ap, ioW, setIO, setD, ioOut, ioGet, toT_ap, toTr_ap, tfAnd_ap, tfOr_ap, tfNot_ap, tYesF_ap, eIf_ap, eAnd_ap, eOr_ap, eNot_ap, eMut_ap, pName_ap, pSub1_ap, hasP, hasT, tyD, storL, storable, getP, setP, opApp, opIns, opPop, opClear, opExt, opSet, putE, putV, freeze, frz1, newAll, allNew, Mode.frz, Mode.w, Mode.new, retOk, D.atom, D.atomL, D.flat, D.tru, D.node, D.items, D.isNon, gSet_ap, gsNil, gsCons, gTupE, gSeqE, bindN, putP, iSeq_ap, iRg_ap, iEnm_ap, rg1_ap, rg2_ap, eListRg_ap, oNone_ap, oSome_ap, eSlice_ap, pSlice, pTup_ap, pLst_ap, pI2, pNeg, pAdd, pMul, pEq_int, pEq_bl, pEq_str, pEq_nm, pEq_nil, pIsN, pIx, pLen, pAbs, pMin, pMax, pDivmod, pInt, pList, pTuple, pSumA, pAll, pAny, pIn_lst, pIn_tup, pIsi, D.tyn, isiB, flatD, keyD, Kind.S, wipeE, eDict0_ap, eDict1_ap, pGet, nm, atomL_app, atI_0, atI_1, atI_2, atI_3, e1], by simp [fr]⟩
  · refine ⟨false, by simp [f_is_wood, d_is_wood, sl_eq, callD_ap, startE, sSeq_ap, sIf_ap, sSet_ap, sRet_ap, sRetN_ap, sDrop_ap, sAsg_ap, sPar2_ap, sFor_ap, sNext_ap, sSetIt_ap, sPairSet_ap, gSetIt_ap, eVar_ap, eC_ap, ePrim_ap, lCons_ap, lNil_ap, lRef_ap, eOwn_ap, eCall_ap, ioW, setIO, setD, ioOut, ioGet, toT_ap, toTr_ap, tfAnd_ap, tfOr_ap, tfNot_ap, tYesF_ap, eIf_ap, eAnd_ap, eOr_ap, eNot_ap, eMut_ap, pName_ap, pSub1_ap, hasP, hasT, tyD, storL, storable, getP, setP, opApp, opIns, opPop, opClear, opExt, opSet, putE, putV, freeze, frz1, newAll, allNew, Mode.frz, Mode.w, Mode.new, retOk, D.atom, D.atomL, D.flat, D.tru, D.node, D.items, D.isNon, gSet_ap, gsNil, gsCons, gTupE, gSeqE, bindN, putP, iSeq_ap, iRg_ap, iEnm_ap, rg1_ap, rg2_ap, eListRg_ap, oNone_ap, oSome_ap, eSlice_ap, pSlice, pTup_ap, pLst_ap, pI2, pNeg, pAdd, pMul, pEq_int, pEq_bl, pEq_str, pEq_nm, pEq_nil, pIsN, pIx, pLen, pAbs, pMin, pMax, pDivmod, pInt, pList, pTuple, pSumA, pAll, pAny, pIn_lst, pIn_tup, pIsi, D.tyn, isiB, flatD, keyD, Kind.S, wipeE, eDict0_ap, eDict1_ap, pGet, nm, atomL_app, atI_0, atI_1, atI_2, atI_3, lsD, e1], ?_⟩
    simp
    intro z
    exact z i (List.getElem?_eq_some_iff.mp hk).1 k q hk hq hw.cn.symm
end
end VL
set_option maxHeartbeats 4000000
namespace VL
open PySem PySem.Spec PyProof.Rows L2
theorem cast_toNat (F : List Nat) : (F.map fun (k : Nat) => (k : Int)).map Int.toNat = F := by
  rw [List.map_map]
  have : (Int.toNat ∘ fun (k : Nat) => (k : Int)) = id := by funext k; simp
  rw [this, List.map_id]
theorem sortI_pm (F : List Nat) : ∃ F' : List Nat, sortI (F.map fun (k : Nat) => (k : Int)) = F'.map (fun (k : Nat) => (k : Int)) ∧ F'.Perm F ∧ F'.Pairwise (· ≤ ·) := by
  obtain ⟨F', h1, _, _⟩ := sortI_nm F
  have hp := (sortI_perm (F.map fun (k : Nat) => (k : Int))).map Int.toNat
  have hle := sortI_le (F.map fun (k : Nat) => (k : Int))
  rw [h1, cast_toNat, cast_toNat] at hp
  rw [h1, List.pairwise_map] at hle
  exact ⟨F', h1, hp, hle.imp fun {a b} h => by omega⟩
theorem oth_sorted (n r : Nat) : (othL n r).Pairwise (· ≤ ·) := (List.pairwise_lt_range.imp fun {a b} h => Nat.le_of_lt h).filter _
theorem full_len : ∀ {n : Nat} {l : List Nat}, (∀ v, v < n → v ∈ l) → n ≤ l.length
  | 0, _, _ => Nat.zero_le _
  | n + 1, l, h => by
    have hm := h n (by omega)
    have := full_len (n := n) (l := l.erase n) fun v hv => (List.mem_erase_of_ne (by omega)).mpr (h v (by omega))
    rw [List.length_erase_of_mem hm] at this
    have := List.length_pos_of_mem hm
    omega
section
variable {n r : Nat} {ps : List (Nat × Nat)} {N : List Nat} {NU : D}
theorem oth_ok (h2 : n ≤ 9) : f_others_than [webD n ps, nm r] = some (lsD (othL n r), []) := by
  obtain ⟨ys, E', e2, rfl, rfl⟩ := lcL_inv (g := gSet (.pr true) 2) (t := d_others_than_2) (f := d_others_than_1) (vs := [2]) (ds := (List.range n).map nm) (E := [some (.arg, webD n ps), some (.arg, nm r), none])
    (fun i acc E => acc = (othL i r).map nm ∧ E = [some (.arg, webD n ps), some (.arg, nm r), none]) ⟨rfl, rfl⟩ (by
      rintro i d acc E hd ⟨rfl, rfl⟩
      obtain ⟨hi, rfl⟩ := rg_get hd
      have hs : othL (i + 1) r = if i ≠ r then othL i r ++ [i] else othL i r := by
        unfold othL
        rw [List.range_succ, List.filter_append]
        by_cases z : i = r <;> simp [z]
      refine ⟨[some (.arg, webD n ps), some (.arg, nm r), some (.own, nm i)], decide (i ≠ r), [some (.arg, webD n ps), some (.arg, nm r), some (.own, nm i)], by simp [sl_eq, callD_ap, startE, sSeq_ap, sIf_ap, sSet_ap, sRet_ap, sRetN_ap, sDrop_ap, sAsg_ap, sPar2_ap, sFor_ap, sNext_ap, sSetIt_ap, sPairSet_ap, gSetIt_ap, eVar_ap, eC_ap, ePrim_ap, lCons_ap, lNil_ap, lRef_ap, eOwn_ap, eCall_ap, ioW, setIO, setD, ioOut, ioGet, toT_ap, toTr_ap, tfAnd_ap, tfOr_ap, tfNot_ap, tYesF_ap, eIf_ap, eAnd_ap, eOr_ap, eNot_ap, eMut_ap, pName_ap, pSub1_ap, hasP, hasT, tyD, storL, storable, getP, setP, opApp, opIns, opPop, opClear, opExt, opSet, putE, putV, freeze, frz1, newAll, allNew, Mode.frz, Mode.w, Mode.new, retOk, D.atom, D.atomL, D.flat, D.tru, D.node, D.items, D.isNon, gSet_ap, gsNil, gsCons, gTupE, gSeqE, bindN, putP, iSeq_ap, iRg_ap, iEnm_ap, rg1_ap, rg2_ap, eListRg_ap, oNone_ap, oSome_ap, eSlice_ap, pSlice, pTup_ap, pLst_ap, pI2, pNeg, pAdd, pMul, pEq_int, pEq_bl, pEq_str, pEq_nm, pEq_nil, pIsN, pIx, pLen, pAbs, pMin, pMax, pDivmod, pInt, pList, pTuple, pSumA, pAll, pAny, pIn_lst, pIn_tup, pIsi, D.tyn, isiB, flatD, keyD, Kind.S, wipeE, eDict0_ap, eDict1_ap, pGet, nm, atomL_app, atI_0, atI_1, atI_2, atI_3], ?_, fun z => ⟨by rw [hs, if_neg (of_decide_eq_false z)], by simp [wipeE]⟩, fun z => ⟨nm i, _, by simp [d_others_than_1, sl_eq, callD_ap, startE, sSeq_ap, sIf_ap, sSet_ap, sRet_ap, sRetN_ap, sDrop_ap, sAsg_ap, sPar2_ap, sFor_ap, sNext_ap, sSetIt_ap, sPairSet_ap, gSetIt_ap, eVar_ap, eC_ap, ePrim_ap, lCons_ap, lNil_ap, lRef_ap, eOwn_ap, eCall_ap, ioW, setIO, setD, ioOut, ioGet, toT_ap, toTr_ap, tfAnd_ap, tfOr_ap, tfNot_ap, tYesF_ap, eIf_ap, eAnd_ap, eOr_ap, eNot_ap, eMut_ap, pName_ap, pSub1_ap, hasP, hasT, tyD, storL, storable, getP, setP, opApp, opIns, opPop, opClear, opExt, opSet, putE, putV, freeze, frz1, newAll, allNew, Mode.frz, Mode.w, Mode.new, retOk, D.atom, D.atomL, D.flat, D.tru, D.node, D.items, D.isNon, gSet_ap, gsNil, gsCons, gTupE, gSeqE, bindN, putP, iSeq_ap, iRg_ap, iEnm_ap, rg1_ap, rg2_ap, eListRg_ap, oNone_ap, oSome_ap, eSlice_ap, pSlice, pTup_ap, pLst_ap, pI2, pNeg, pAdd, pMul, pEq_int, pEq_bl, pEq_str, pEq_nm, pEq_nil, pIsN, pIx, pLen, pAbs, pMin, pMax, pDivmod, pInt, pList, pTuple, pSumA, pAll, pAny, pIn_lst, pIn_tup, pIsi, D.tyn, isiB, flatD, keyD, Kind.S, wipeE, eDict0_ap, eDict1_ap, pGet, nm, atomL_app, atI_0, atI_1, atI_2, atI_3] <;> rfl, by rw [hs, if_pos (of_decide_eq_true z)]; simp, by simp [wipeE]⟩⟩
      by_cases z : i = r
      · simp [d_others_than_2, sl_eq, callD_ap, startE, sSeq_ap, sIf_ap, sSet_ap, sRet_ap, sRetN_ap, sDrop_ap, sAsg_ap, sPar2_ap, sFor_ap, sNext_ap, sSetIt_ap, sPairSet_ap, gSetIt_ap, eVar_ap, eC_ap, ePrim_ap, lCons_ap, lNil_ap, lRef_ap, eOwn_ap, eCall_ap, ioW, setIO, setD, ioOut, ioGet, toT_ap, toTr_ap, tfAnd_ap, tfOr_ap, tfNot_ap, tYesF_ap, eIf_ap, eAnd_ap, eOr_ap, eNot_ap, eMut_ap, pName_ap, pSub1_ap, hasP, hasT, tyD, storL, storable, getP, setP, opApp, opIns, opPop, opClear, opExt, opSet, putE, putV, freeze, frz1, newAll, allNew, Mode.frz, Mode.w, Mode.new, retOk, D.atom, D.atomL, D.flat, D.tru, D.node, D.items, D.isNon, gSet_ap, gsNil, gsCons, gTupE, gSeqE, bindN, putP, iSeq_ap, iRg_ap, iEnm_ap, rg1_ap, rg2_ap, eListRg_ap, oNone_ap, oSome_ap, eSlice_ap, pSlice, pTup_ap, pLst_ap, pI2, pNeg, pAdd, pMul, pEq_int, pEq_bl, pEq_str, pEq_nm, pEq_nil, pIsN, pIx, pLen, pAbs, pMin, pMax, pDivmod, pInt, pList, pTuple, pSumA, pAll, pAny, pIn_lst, pIn_tup, pIsi, D.tyn, isiB, flatD, keyD, Kind.S, wipeE, eDict0_ap, eDict1_ap, pGet, nm, atomL_app, atI_0, atI_1, atI_2, atI_3, z]
      · have z' : ¬ (i : Int) = (r : Int) := by omega
        simp [d_others_than_2, sl_eq, callD_ap, startE, sSeq_ap, sIf_ap, sSet_ap, sRet_ap, sRetN_ap, sDrop_ap, sAsg_ap, sPar2_ap, sFor_ap, sNext_ap, sSetIt_ap, sPairSet_ap, gSetIt_ap, eVar_ap, eC_ap, ePrim_ap, lCons_ap, lNil_ap, lRef_ap, eOwn_ap, eCall_ap, ioW, setIO, setD, ioOut, ioGet, toT_ap, toTr_ap, tfAnd_ap, tfOr_ap, tfNot_ap, tYesF_ap, eIf_ap, eAnd_ap, eOr_ap, eNot_ap, eMut_ap, pName_ap, pSub1_ap, hasP, hasT, tyD, storL, storable, getP, setP, opApp, opIns, opPop, opClear, opExt, opSet, putE, putV, freeze, frz1, newAll, allNew, Mode.frz, Mode.w, Mode.new, retOk, D.atom, D.atomL, D.flat, D.tru, D.node, D.items, D.isNon, gSet_ap, gsNil, gsCons, gTupE, gSeqE, bindN, putP, iSeq_ap, iRg_ap, iEnm_ap, rg1_ap, rg2_ap, eListRg_ap, oNone_ap, oSome_ap, eSlice_ap, pSlice, pTup_ap, pLst_ap, pI2, pNeg, pAdd, pMul, pEq_int, pEq_bl, pEq_str, pEq_nm, pEq_nil, pIsN, pIx, pLen, pAbs, pMin, pMax, pDivmod, pInt, pList, pTuple, pSumA, pAll, pAny, pIn_lst, pIn_tup, pIsi, D.tyn, isiB, flatD, keyD, Kind.S, wipeE, eDict0_ap, eDict1_ap, pGet, nm, atomL_app, atI_0, atI_1, atI_2, atI_3, z, z'])
  have f2 := rg_nat n
  have f3 := rgOk_nat (n := n) (by omega)
  have f4 : eLc .own (iRg (rg1 (ePrim pIx (lCons (eVar 0) (lCons (eC (.int 0)) lNil))))) (fun b => (gSet (.pr b) 2)) d_others_than_2 d_others_than_1 [2] [] [some (.arg, webD n ps), some (.arg, nm r), none] = some (lsD (othL n r), [some (.arg, webD n ps), some (.arg, nm r), none]) := by
    rw [List.length_map, List.length_range] at e2
    exact eLc_eq (E1 := [some (.arg, webD n ps), some (.arg, nm r), none]) (ds := (List.range n).map nm) (by simp [sl_eq, callD_ap, startE, sSeq_ap, sIf_ap, sSet_ap, sRet_ap, sRetN_ap, sDrop_ap, sAsg_ap, sPar2_ap, sFor_ap, sNext_ap, sSetIt_ap, sPairSet_ap, gSetIt_ap, eVar_ap, eC_ap, ePrim_ap, lCons_ap, lNil_ap, lRef_ap, eOwn_ap, eCall_ap, ioW, setIO, setD, ioOut, ioGet, toT_ap, toTr_ap, tfAnd_ap, tfOr_ap, tfNot_ap, tYesF_ap, eIf_ap, eAnd_ap, eOr_ap, eNot_ap, eMut_ap, pName_ap, pSub1_ap, hasP, hasT, tyD, storL, storable, getP, setP, opApp, opIns, opPop, opClear, opExt, opSet, putE, putV, freeze, frz1, newAll, allNew, Mode.frz, Mode.w, Mode.new, retOk, D.atom, D.atomL, D.flat, D.tru, D.node, D.items, D.isNon, gSet_ap, gsNil, gsCons, gTupE, gSeqE, bindN, putP, iSeq_ap, iRg_ap, iEnm_ap, rg1_ap, rg2_ap, eListRg_ap, oNone_ap, oSome_ap, eSlice_ap, pSlice, pTup_ap, pLst_ap, pI2, pNeg, pAdd, pMul, pEq_int, pEq_bl, pEq_str, pEq_nm, pEq_nil, pIsN, pIx, pLen, pAbs, pMin, pMax, pDivmod, pInt, pList, pTuple, pSumA, pAll, pAny, pIn_lst, pIn_tup, pIsi, D.tyn, isiB, flatD, keyD, Kind.S, wipeE, eDict0_ap, eDict1_ap, pGet, nm, atomL_app, atI_0, atI_1, atI_2, atI_3, f2, f3]) (by simpa [sl_eq, callD_ap, startE, sSeq_ap, sIf_ap, sSet_ap, sRet_ap, sRetN_ap, sDrop_ap, sAsg_ap, sPar2_ap, sFor_ap, sNext_ap, sSetIt_ap, sPairSet_ap, gSetIt_ap, eVar_ap, eC_ap, ePrim_ap, lCons_ap, lNil_ap, lRef_ap, eOwn_ap, eCall_ap, ioW, setIO, setD, ioOut, ioGet, toT_ap, toTr_ap, tfAnd_ap, tfOr_ap, tfNot_ap, tYesF_ap, eIf_ap, eAnd_ap, eOr_ap, eNot_ap, eMut_ap, pName_ap, pSub1_ap, hasP, hasT, tyD, storL, storable, getP, setP, opApp, opIns, opPop, opClear, opExt, opSet, putE, putV, freeze, frz1, newAll, allNew, Mode.frz, Mode.w, Mode.new, retOk, D.atom, D.atomL, D.flat, D.tru, D.node, D.items, D.isNon, gSet_ap, gsNil, gsCons, gTupE, gSeqE, bindN, putP, iSeq_ap, iRg_ap, iEnm_ap, rg1_ap, rg2_ap, eListRg_ap, oNone_ap, oSome_ap, eSlice_ap, pSlice, pTup_ap, pLst_ap, pI2, pNeg, pAdd, pMul, pEq_int, pEq_bl, pEq_str, pEq_nm, pEq_nil, pIsN, pIx, pLen, pAbs, pMin, pMax, pDivmod, pInt, pList, pTuple, pSumA, pAll, pAny, pIn_lst, pIn_tup, pIsi, D.tyn, isiB, flatD, keyD, Kind.S, wipeE, eDict0_ap, eDict1_ap, pGet, nm, atomL_app, atI_0, atI_1, atI_2, atI_3] using e2) (by simp [sizeLine_eq]; omega) (by simp [setM])
  have f5 := atomL_nm (othL n r)
  generalize othL n r = O at *
  simp [nm, lsD] at f4
  simp [f_others_than, d_others_than, sl_eq, callD_ap, startE, sSeq_ap, sIf_ap, sSet_ap, sRet_ap, sRetN_ap, sDrop_ap, sAsg_ap, sPar2_ap, sFor_ap, sNext_ap, sSetIt_ap, sPairSet_ap, gSetIt_ap, eVar_ap, eC_ap, ePrim_ap, lCons_ap, lNil_ap, lRef_ap, eOwn_ap, eCall_ap, ioW, setIO, setD, ioOut, ioGet, toT_ap, toTr_ap, tfAnd_ap, tfOr_ap, tfNot_ap, tYesF_ap, eIf_ap, eAnd_ap, eOr_ap, eNot_ap, eMut_ap, pName_ap, pSub1_ap, hasP, hasT, tyD, storL, storable, getP, setP, opApp, opIns, opPop, opClear, opExt, opSet, putE, putV, freeze, frz1, newAll, allNew, Mode.frz, Mode.w, Mode.new, retOk, D.atom, D.atomL, D.flat, D.tru, D.node, D.items, D.isNon, gSet_ap, gsNil, gsCons, gTupE, gSeqE, bindN, putP, iSeq_ap, iRg_ap, iEnm_ap, rg1_ap, rg2_ap, eListRg_ap, oNone_ap, oSome_ap, eSlice_ap, pSlice, pTup_ap, pLst_ap, pI2, pNeg, pAdd, pMul, pEq_int, pEq_bl, pEq_str, pEq_nm, pEq_nil, pIsN, pIx, pLen, pAbs, pMin, pMax, pDivmod, pInt, pList, pTuple, pSumA, pAll, pAny, pIn_lst, pIn_tup, pIsi, D.tyn, isiB, flatD, keyD, Kind.S, wipeE, eDict0_ap, eDict1_ap, pGet, nm, atomL_app, atI_0, atI_1, atI_2, atI_3, lsD, f4, f5]
/-- what a number's lane leads to -/
def gD (ps : List (Nat × Nat)) : D → D
  | .int i => nm (goal ps i.toNat)
  | d => d
theorem gD_map (N : List Nat) : (N.map nm).map (gD ps) = (N.map (goal ps)).map nm := by
  rw [List.map_map, List.map_map]
  refine List.map_congr_left fun k _ => ?_
  simp [gD, nm]
theorem ix_goal {k : Nat} (hk : k < ps.length) : ∃ q, atI (ps.map ln) (k : Int) = some (.tup [.int (q : Nat × Nat).1, .int (q.2 : Int)]) ∧ ps[k]? = some q ∧ goal ps k = q.2 := by
  obtain ⟨q, hq⟩ := get_ex hk
  have j0 := atI_nat (ps.map ln) k
  rw [List.getElem?_map, hq] at j0
  exact ⟨q, j0, hq, goal_of hq⟩
theorem sp_ok (h2 : n ≤ 9) (hps : ∀ q ∈ ps, q.1 < n ∧ q.2 < n) (hN : ∀ k ∈ N, k < ps.length) (hl : N.length ≤ 60) (hNU : NU = lsD N ∨ NU = .tup (N.map nm)) {G' : List Nat} (hG : sortI ((N.map (goal ps)).map fun (k : Nat) => (k : Int)) = G'.map fun (k : Nat) => (k : Int)) :
    ∃ c : Bool, f_is_spread [webD n ps, nm r, NU] = some (.bl (decide (G' = othL n r) && c), []) ∧ (c = true ↔ Free ps N N.length) := by
  obtain ⟨c, e1, hc⟩ := isw_ok h2 hps hN hl hNU
  refine ⟨c, ?_, hc⟩
  have o1 := oth_ok (ps := ps) (r := r) h2
  have lc : eLc (.sub 2) (iSeq (eVar 2)) (fun b => (gSet (.pr b) 4)) tYesF d_is_spread_1 [4] [] [some (.arg, webD n ps), some (.arg, nm r), some (.arg, NU), none, none] = some (.lst ((N.map (goal ps)).map nm), [some (.arg, webD n ps), some (.arg, nm r), some (.arg, NU), none, none]) := by
    have := lcL_map (g := gSet (.pr false) 4) (t := tYesF) (f := d_is_spread_1) (vs := [4]) (ds := N.map nm) (E := [some (.arg, webD n ps), some (.arg, nm r), some (.arg, NU), none, none]) (gD ps) (by
      intro d hd
      obtain ⟨k, hk, rfl⟩ := List.mem_map.mp hd
      obtain ⟨q, j0, hq, gk⟩ := ix_goal (hN k hk)
      refine ⟨[some (.arg, webD n ps), some (.arg, nm r), some (.arg, NU), none, some (.own, nm k)], [some (.arg, webD n ps), some (.arg, nm r), some (.arg, NU), none, some (.own, nm k)], by simp [sl_eq, callD_ap, startE, sSeq_ap, sIf_ap, sSet_ap, sRet_ap, sRetN_ap, sDrop_ap, sAsg_ap, sPar2_ap, sFor_ap, sNext_ap, sSetIt_ap, sPairSet_ap, gSetIt_ap, eVar_ap, eC_ap, ePrim_ap, lCons_ap, lNil_ap, lRef_ap, eOwn_ap, eCall_ap, ioW, setIO, setD, ioOut, ioGet, toT_ap, toTr_ap, tfAnd_ap, tfOr_ap, tfNot_ap, tYesF_ap, eIf_ap, eAnd_ap, eOr_ap, eNot_ap, eMut_ap, pName_ap, pSub1_ap, hasP, hasT, tyD, storL, storable, getP, setP, opApp, opIns, opPop, opClear, opExt, opSet, putE, putV, freeze, frz1, newAll, allNew, Mode.frz, Mode.w, Mode.new, retOk, D.atom, D.atomL, D.flat, D.tru, D.node, D.items, D.isNon, gSet_ap, gsNil, gsCons, gTupE, gSeqE, bindN, putP, iSeq_ap, iRg_ap, iEnm_ap, rg1_ap, rg2_ap, eListRg_ap, oNone_ap, oSome_ap, eSlice_ap, pSlice, pTup_ap, pLst_ap, pI2, pNeg, pAdd, pMul, pEq_int, pEq_bl, pEq_str, pEq_nm, pEq_nil, pIsN, pIx, pLen, pAbs, pMin, pMax, pDivmod, pInt, pList, pTuple, pSumA, pAll, pAny, pIn_lst, pIn_tup, pIsi, D.tyn, isiB, flatD, keyD, Kind.S, wipeE, eDict0_ap, eDict1_ap, pGet, nm, atomL_app, atI_0, atI_1, atI_2, atI_3], rfl, ?_, by simp [wipeE]⟩
      simp [d_is_spread_1, sl_eq, callD_ap, startE, sSeq_ap, sIf_ap, sSet_ap, sRet_ap, sRetN_ap, sDrop_ap, sAsg_ap, sPar2_ap, sFor_ap, sNext_ap, sSetIt_ap, sPairSet_ap, gSetIt_ap, eVar_ap, eC_ap, ePrim_ap, lCons_ap, lNil_ap, lRef_ap, eOwn_ap, eCall_ap, ioW, setIO, setD, ioOut, ioGet, toT_ap, toTr_ap, tfAnd_ap, tfOr_ap, tfNot_ap, tYesF_ap, eIf_ap, eAnd_ap, eOr_ap, eNot_ap, eMut_ap, pName_ap, pSub1_ap, hasP, hasT, tyD, storL, storable, getP, setP, opApp, opIns, opPop, opClear, opExt, opSet, putE, putV, freeze, frz1, newAll, allNew, Mode.frz, Mode.w, Mode.new, retOk, D.atom, D.atomL, D.flat, D.tru, D.node, D.items, D.isNon, gSet_ap, gsNil, gsCons, gTupE, gSeqE, bindN, putP, iSeq_ap, iRg_ap, iEnm_ap, rg1_ap, rg2_ap, eListRg_ap, oNone_ap, oSome_ap, eSlice_ap, pSlice, pTup_ap, pLst_ap, pI2, pNeg, pAdd, pMul, pEq_int, pEq_bl, pEq_str, pEq_nm, pEq_nil, pIsN, pIx, pLen, pAbs, pMin, pMax, pDivmod, pInt, pList, pTuple, pSumA, pAll, pAny, pIn_lst, pIn_tup, pIsi, D.tyn, isiB, flatD, keyD, Kind.S, wipeE, eDict0_ap, eDict1_ap, pGet, nm, atomL_app, atI_0, atI_1, atI_2, atI_3, j0, gD, gk])
    rw [gD_map] at this
    exact eLc_eq (E1 := [some (.arg, webD n ps), some (.arg, nm r), some (.arg, NU), none, none]) (ds := N.map nm) (by rcases hNU with rfl | rfl <;> simp [sl_eq, callD_ap, startE, sSeq_ap, sIf_ap, sSet_ap, sRet_ap, sRetN_ap, sDrop_ap, sAsg_ap, sPar2_ap, sFor_ap, sNext_ap, sSetIt_ap, sPairSet_ap, gSetIt_ap, eVar_ap, eC_ap, ePrim_ap, lCons_ap, lNil_ap, lRef_ap, eOwn_ap, eCall_ap, ioW, setIO, setD, ioOut, ioGet, toT_ap, toTr_ap, tfAnd_ap, tfOr_ap, tfNot_ap, tYesF_ap, eIf_ap, eAnd_ap, eOr_ap, eNot_ap, eMut_ap, pName_ap, pSub1_ap, hasP, hasT, tyD, storL, storable, getP, setP, opApp, opIns, opPop, opClear, opExt, opSet, putE, putV, freeze, frz1, newAll, allNew, Mode.frz, Mode.w, Mode.new, retOk, D.atom, D.atomL, D.flat, D.tru, D.node, D.items, D.isNon, gSet_ap, gsNil, gsCons, gTupE, gSeqE, bindN, putP, iSeq_ap, iRg_ap, iEnm_ap, rg1_ap, rg2_ap, eListRg_ap, oNone_ap, oSome_ap, eSlice_ap, pSlice, pTup_ap, pLst_ap, pI2, pNeg, pAdd, pMul, pEq_int, pEq_bl, pEq_str, pEq_nm, pEq_nil, pIsN, pIx, pLen, pAbs, pMin, pMax, pDivmod, pInt, pList, pTuple, pSumA, pAll, pAny, pIn_lst, pIn_tup, pIsi, D.tyn, isiB, flatD, keyD, Kind.S, wipeE, eDict0_ap, eDict1_ap, pGet, nm, atomL_app, atI_0, atI_1, atI_2, atI_3]) (by simpa [sl_eq, callD_ap, startE, sSeq_ap, sIf_ap, sSet_ap, sRet_ap, sRetN_ap, sDrop_ap, sAsg_ap, sPar2_ap, sFor_ap, sNext_ap, sSetIt_ap, sPairSet_ap, gSetIt_ap, eVar_ap, eC_ap, ePrim_ap, lCons_ap, lNil_ap, lRef_ap, eOwn_ap, eCall_ap, ioW, setIO, setD, ioOut, ioGet, toT_ap, toTr_ap, tfAnd_ap, tfOr_ap, tfNot_ap, tYesF_ap, eIf_ap, eAnd_ap, eOr_ap, eNot_ap, eMut_ap, pName_ap, pSub1_ap, hasP, hasT, tyD, storL, storable, getP, setP, opApp, opIns, opPop, opClear, opExt, opSet, putE, putV, freeze, frz1, newAll, allNew, Mode.frz, Mode.w, Mode.new, retOk, D.atom, D.atomL, D.flat, D.tru, D.node, D.items, D.isNon, gSet_ap, gsNil, gsCons, gTupE, gSeqE, bindN, putP, iSeq_ap, iRg_ap, iEnm_ap, rg1_ap, rg2_ap, eListRg_ap, oNone_ap, oSome_ap, eSlice_ap, pSlice, pTup_ap, pLst_ap, pI2, pNeg, pAdd, pMul, pEq_int, pEq_bl, pEq_str, pEq_nm, pEq_nil, pIsN, pIx, pLen, pAbs, pMin, pMax, pDivmod, pInt, pList, pTuple, pSumA, pAll, pAny, pIn_lst, pIn_tup, pIsi, D.tyn, isiB, flatD, keyD, Kind.S, wipeE, eDict0_ap, eDict1_ap, pGet, nm, atomL_app, atI_0, atI_1, atI_2, atI_3] using this) (by rw [List.length_map, sizeLine_eq]; omega) (by simp [setM])
  have s1 : pSortedI [.lst ((N.map (goal ps)).map nm)] = some (lsD G') := by
    simp only [pSortedI, intsD_nm, hG]
    rw [if_pos (by simp; omega)]
    rw [List.map_map]
    rfl
  generalize N.map (goal ps) = Gs at *
  have p1 := pEq_nm false G' (othL n r)
  generalize othL n r = O at *
  simp [nm, lsD] at o1 e1 lc s1
  by_cases z : G' = O
  · subst z
    simp [f_is_spread, d_is_spread, sl_eq, callD_ap, startE, sSeq_ap, sIf_ap, sSet_ap, sRet_ap, sRetN_ap, sDrop_ap, sAsg_ap, sPar2_ap, sFor_ap, sNext_ap, sSetIt_ap, sPairSet_ap, gSetIt_ap, eVar_ap, eC_ap, ePrim_ap, lCons_ap, lNil_ap, lRef_ap, eOwn_ap, eCall_ap, ioW, setIO, setD, ioOut, ioGet, toT_ap, toTr_ap, tfAnd_ap, tfOr_ap, tfNot_ap, tYesF_ap, eIf_ap, eAnd_ap, eOr_ap, eNot_ap, eMut_ap, pName_ap, pSub1_ap, hasP, hasT, tyD, storL, storable, getP, setP, opApp, opIns, opPop, opClear, opExt, opSet, putE, putV, freeze, frz1, newAll, allNew, Mode.frz, Mode.w, Mode.new, retOk, D.atom, D.atomL, D.flat, D.tru, D.node, D.items, D.isNon, gSet_ap, gsNil, gsCons, gTupE, gSeqE, bindN, putP, iSeq_ap, iRg_ap, iEnm_ap, rg1_ap, rg2_ap, eListRg_ap, oNone_ap, oSome_ap, eSlice_ap, pSlice, pTup_ap, pLst_ap, pI2, pNeg, pAdd, pMul, pEq_int, pEq_bl, pEq_str, pEq_nm, pEq_nil, pIsN, pIx, pLen, pAbs, pMin, pMax, pDivmod, pInt, pList, pTuple, pSumA, pAll, pAny, pIn_lst, pIn_tup, pIsi, D.tyn, isiB, flatD, keyD, Kind.S, wipeE, eDict0_ap, eDict1_ap, pGet, nm, atomL_app, atI_0, atI_1, atI_2, atI_3, lsD, lc, s1, o1, e1]
  · simp [f_is_spread, d_is_spread, sl_eq, callD_ap, startE, sSeq_ap, sIf_ap, sSet_ap, sRet_ap, sRetN_ap, sDrop_ap, sAsg_ap, sPar2_ap, sFor_ap, sNext_ap, sSetIt_ap, sPairSet_ap, gSetIt_ap, eVar_ap, eC_ap, ePrim_ap, lCons_ap, lNil_ap, lRef_ap, eOwn_ap, eCall_ap, ioW, setIO, setD, ioOut, ioGet, toT_ap, toTr_ap, tfAnd_ap, tfOr_ap, tfNot_ap, tYesF_ap, eIf_ap, eAnd_ap, eOr_ap, eNot_ap, eMut_ap, pName_ap, pSub1_ap, hasP, hasT, tyD, storL, storable, getP, setP, opApp, opIns, opPop, opClear, opExt, opSet, putE, putV, freeze, frz1, newAll, allNew, Mode.frz, Mode.w, Mode.new, retOk, D.atom, D.atomL, D.flat, D.tru, D.node, D.items, D.isNon, gSet_ap, gsNil, gsCons, gTupE, gSeqE, bindN, putP, iSeq_ap, iRg_ap, iEnm_ap, rg1_ap, rg2_ap, eListRg_ap, oNone_ap, oSome_ap, eSlice_ap, pSlice, pTup_ap, pLst_ap, pI2, pNeg, pAdd, pMul, pEq_int, pEq_bl, pEq_str, pEq_nm, pEq_nil, pIsN, pIx, pLen, pAbs, pMin, pMax, pDivmod, pInt, pList, pTuple, pSumA, pAll, pAny, pIn_lst, pIn_tup, pIsi, D.tyn, isiB, flatD, keyD, Kind.S, wipeE, eDict0_ap, eDict1_ap, pGet, nm, atomL_app, atI_0, atI_1, atI_2, atI_3, lsD, lc, s1, o1, e1, z]
end
end VL
set_option maxHeartbeats 4000000
namespace VL
open PySem PySem.Spec PyProof.Rows L2
section
variable {n r : Nat} {ps : List (Nat × Nat)} {N : List Nat}
abbrev spE (n : Nat) (ps : List (Nat × Nat)) (r : Nat) (N fd : List Nat) (x4 x5 x6 x7 x8 : Option (Mode × D)) : Env := [some (.arg, webD n ps), some (.arg, nm r), some (.arg, lsD N), some (.own, lsD fd), x4, x5, x6, x7, x8, none]
def ClsF (ps : List (Nat × Nat)) (N fd : List Nat) : Prop := ∀ k ∈ N, ∀ q, ps[k]? = some q → q.1 ∈ fd → q.2 ∈ fd
structure Fd (n r : Nat) (ps : List (Nat × Nat)) (N fd : List Nat) : Prop where
  nd : fd.Nodup
  hr : r ∈ fd
  rh : ∀ v ∈ fd, v < n ∧ Rh ps N r v
theorem Fd.size {fd : List Nat} (h : Fd n r ps N fd) : fd.length ≤ n := nodup_le h.nd fun v hv => (h.rh v hv).1
theorem sp_step {fd : List Nat} {k : Nat} {q : Nat × Nat} {x4 x6 x7 x8 : Option (Mode × D)} (hq : ps[k]? = some q) (hl : fd.length ≤ 100) :
    d_law_is_spread_1 (spE n ps r N fd x4 (some (.own, nm k)) x6 x7 x8) = some (.nx (spE n ps r N (if q.1 ∈ fd ∧ q.2 ∉ fd then fd ++ [q.2] else fd) x4 (some (.own, nm k)) (some (.own, nm q.1)) (some (.own, nm q.2)) x8)) := by
  have j0 := atI_nat (ps.map ln) k
  rw [List.getElem?_map, hq] at j0
  simp only [Option.map_some] at j0
  have f1 : fd.length < 16777216 := by omega
  have p1 := pIn_lst false q.1 fd
  have p2 := pIn_lst true q.2 fd
  by_cases z1 : q.1 ∈ fd
  · simp only [decide_eq_true z1] at p1
    by_cases z2 : q.2 ∈ fd
    · simp only [decide_eq_true z2] at p2
      rw [if_neg (fun z => z.2 z2)]
      simp [d_law_is_spread_1, sl_eq, callD_ap, startE, sSeq_ap, sIf_ap, sSet_ap, sRet_ap, sRetN_ap, sDrop_ap, sAsg_ap, sPar2_ap, sFor_ap, sNext_ap, sSetIt_ap, sPairSet_ap, gSetIt_ap, eVar_ap, eC_ap, ePrim_ap, lCons_ap, lNil_ap, lRef_ap, eOwn_ap, eCall_ap, ioW, setIO, setD, ioOut, ioGet, toT_ap, toTr_ap, tfAnd_ap, tfOr_ap, tfNot_ap, tYesF_ap, eIf_ap, eAnd_ap, eOr_ap, eNot_ap, eMut_ap, pName_ap, pSub1_ap, hasP, hasT, tyD, storL, storable, getP, setP, opApp, opIns, opPop, opClear, opExt, opSet, putE, putV, freeze, frz1, newAll, allNew, Mode.frz, Mode.w, Mode.new, retOk, D.atom, D.atomL, D.flat, D.tru, D.node, D.items, D.isNon, gSet_ap, gsNil, gsCons, gTupE, gSeqE, bindN, putP, iSeq_ap, iRg_ap, iEnm_ap, rg1_ap, rg2_ap, eListRg_ap, oNone_ap, oSome_ap, eSlice_ap, pSlice, pTup_ap, pLst_ap, pI2, pNeg, pAdd, pMul, pEq_int, pEq_bl, pEq_str, pEq_nm, pEq_nil, pIsN, pIx, pLen, pAbs, pMin, pMax, pDivmod, pInt, pList, pTuple, pSumA, pAll, pAny, pIn_lst, pIn_tup, pIsi, D.tyn, isiB, flatD, keyD, Kind.S, wipeE, eDict0_ap, eDict1_ap, pGet, nm, atomL_app, atI_0, atI_1, atI_2, atI_3, lsD, j0, p1, p2, z1, z2]
    · simp only [decide_eq_false z2] at p2
      rw [if_pos ⟨z1, z2⟩]
      simp [d_law_is_spread_1, sl_eq, callD_ap, startE, sSeq_ap, sIf_ap, sSet_ap, sRet_ap, sRetN_ap, sDrop_ap, sAsg_ap, sPar2_ap, sFor_ap, sNext_ap, sSetIt_ap, sPairSet_ap, gSetIt_ap, eVar_ap, eC_ap, ePrim_ap, lCons_ap, lNil_ap, lRef_ap, eOwn_ap, eCall_ap, ioW, setIO, setD, ioOut, ioGet, toT_ap, toTr_ap, tfAnd_ap, tfOr_ap, tfNot_ap, tYesF_ap, eIf_ap, eAnd_ap, eOr_ap, eNot_ap, eMut_ap, pName_ap, pSub1_ap, hasP, hasT, tyD, storL, storable, getP, setP, opApp, opIns, opPop, opClear, opExt, opSet, putE, putV, freeze, frz1, newAll, allNew, Mode.frz, Mode.w, Mode.new, retOk, D.atom, D.atomL, D.flat, D.tru, D.node, D.items, D.isNon, gSet_ap, gsNil, gsCons, gTupE, gSeqE, bindN, putP, iSeq_ap, iRg_ap, iEnm_ap, rg1_ap, rg2_ap, eListRg_ap, oNone_ap, oSome_ap, eSlice_ap, pSlice, pTup_ap, pLst_ap, pI2, pNeg, pAdd, pMul, pEq_int, pEq_bl, pEq_str, pEq_nm, pEq_nil, pIsN, pIx, pLen, pAbs, pMin, pMax, pDivmod, pInt, pList, pTuple, pSumA, pAll, pAny, pIn_lst, pIn_tup, pIsi, D.tyn, isiB, flatD, keyD, Kind.S, wipeE, eDict0_ap, eDict1_ap, pGet, nm, atomL_app, atI_0, atI_1, atI_2, atI_3, lsD, j0, p1, p2, z1, z2, f1, sizeLine_eq]
  · simp only [decide_eq_false z1] at p1
    rw [if_neg (fun z => z1 z.1)]
    simp [d_law_is_spread_1, sl_eq, callD_ap, startE, sSeq_ap, sIf_ap, sSet_ap, sRet_ap, sRetN_ap, sDrop_ap, sAsg_ap, sPar2_ap, sFor_ap, sNext_ap, sSetIt_ap, sPairSet_ap, gSetIt_ap, eVar_ap, eC_ap, ePrim_ap, lCons_ap, lNil_ap, lRef_ap, eOwn_ap, eCall_ap, ioW, setIO, setD, ioOut, ioGet, toT_ap, toTr_ap, tfAnd_ap, tfOr_ap, tfNot_ap, tYesF_ap, eIf_ap, eAnd_ap, eOr_ap, eNot_ap, eMut_ap, pName_ap, pSub1_ap, hasP, hasT, tyD, storL, storable, getP, setP, opApp, opIns, opPop, opClear, opExt, opSet, putE, putV, freeze, frz1, newAll, allNew, Mode.frz, Mode.w, Mode.new, retOk, D.atom, D.atomL, D.flat, D.tru, D.node, D.items, D.isNon, gSet_ap, gsNil, gsCons, gTupE, gSeqE, bindN, putP, iSeq_ap, iRg_ap, iEnm_ap, rg1_ap, rg2_ap, eListRg_ap, oNone_ap, oSome_ap, eSlice_ap, pSlice, pTup_ap, pLst_ap, pI2, pNeg, pAdd, pMul, pEq_int, pEq_bl, pEq_str, pEq_nm, pEq_nil, pIsN, pIx, pLen, pAbs, pMin, pMax, pDivmod, pInt, pList, pTuple, pSumA, pAll, pAny, pIn_lst, pIn_tup, pIsi, D.tyn, isiB, flatD, keyD, Kind.S, wipeE, eDict0_ap, eDict1_ap, pGet, nm, atomL_app, atI_0, atI_1, atI_2, atI_3, lsD, j0, p1, z1]
theorem sp_turn {fd : List Nat} {x4 x5 x6 x7 x8 : Option (Mode × D)} (h2 : n ≤ 9) (hps : ∀ q ∈ ps, q.1 < n ∧ q.2 < n) (hN : ∀ k ∈ N, k < ps.length) (F : Fd n r ps N fd) :
    ∃ fd' x5' x6' x7', Fd n r ps N fd' ∧ (ClsF ps N fd → fd' = fd) ∧ (fd'.length = fd.length → fd' = fd ∧ ClsF ps N fd) ∧ fd.length ≤ fd'.length ∧ d_law_is_spread_2 (spE n ps r N fd x4 x5 x6 x7 x8) = some (.nx (spE n ps r N fd' x4 x5' x6' x7' x8)) := by
  obtain ⟨E', e1, fd', x5', x6', x7', F', c1, c2, c3, rfl⟩ := forL_inv (g := gSet (.pr false) 5) (b := d_law_is_spread_1) (ds := N.map nm) (E := spE n ps r N fd x4 x5 x6 x7 x8)
    (fun i E => ∃ fd' x5' x6' x7', Fd n r ps N fd' ∧ (ClsF ps N fd → fd' = fd) ∧ (fd'.length = fd.length → fd' = fd ∧ ∀ j, j < i → ∀ k q, N[j]? = some k → ps[k]? = some q → q.1 ∈ fd → q.2 ∈ fd) ∧ fd.length ≤ fd'.length ∧ E = spE n ps r N fd' x4 x5' x6' x7' x8)
    ⟨fd, x5, x6, x7, F, fun _ => rfl, fun _ => ⟨rfl, fun j hj => absurd hj (Nat.not_lt_zero _)⟩, Nat.le_refl _, rfl⟩ (by
      rintro i d E hd ⟨fd', x5', x6', x7', F', c1, c2, c3, rfl⟩
      rw [List.getElem?_map] at hd
      cases hk : N[i]? with
      | none => rw [hk] at hd; cases hd
      | some k =>
        rw [hk] at hd
        cases hd
        have hkN := List.mem_of_getElem? hk
        obtain ⟨q, hq⟩ := get_ex (hN k hkN)
        have hqn := hps q (List.mem_of_getElem? hq)
        have hsz := F'.size
        refine ⟨spE n ps r N fd' x4 (some (.own, nm k)) x6' x7' x8, _, by simp [sl_eq, callD_ap, startE, sSeq_ap, sIf_ap, sSet_ap, sRet_ap, sRetN_ap, sDrop_ap, sAsg_ap, sPar2_ap, sFor_ap, sNext_ap, sSetIt_ap, sPairSet_ap, gSetIt_ap, eVar_ap, eC_ap, ePrim_ap, lCons_ap, lNil_ap, lRef_ap, eOwn_ap, eCall_ap, ioW, setIO, setD, ioOut, ioGet, toT_ap, toTr_ap, tfAnd_ap, tfOr_ap, tfNot_ap, tYesF_ap, eIf_ap, eAnd_ap, eOr_ap, eNot_ap, eMut_ap, pName_ap, pSub1_ap, hasP, hasT, tyD, storL, storable, getP, setP, opApp, opIns, opPop, opClear, opExt, opSet, putE, putV, freeze, frz1, newAll, allNew, Mode.frz, Mode.w, Mode.new, retOk, D.atom, D.atomL, D.flat, D.tru, D.node, D.items, D.isNon, gSet_ap, gsNil, gsCons, gTupE, gSeqE, bindN, putP, iSeq_ap, iRg_ap, iEnm_ap, rg1_ap, rg2_ap, eListRg_ap, oNone_ap, oSome_ap, eSlice_ap, pSlice, pTup_ap, pLst_ap, pI2, pNeg, pAdd, pMul, pEq_int, pEq_bl, pEq_str, pEq_nm, pEq_nil, pIsN, pIx, pLen, pAbs, pMin, pMax, pDivmod, pInt, pList, pTuple, pSumA, pAll, pAny, pIn_lst, pIn_tup, pIsi, D.tyn, isiB, flatD, keyD, Kind.S, wipeE, eDict0_ap, eDict1_ap, pGet, nm, atomL_app, atI_0, atI_1, atI_2, atI_3], sp_step hq (by omega), _, _, _, _, ?_, ?_, ?_, ?_, rfl⟩
        · by_cases z : q.1 ∈ fd' ∧ q.2 ∉ fd'
          · rw [if_pos z]
            refine ⟨?_, List.mem_append_left _ F'.hr, fun v hv => ?_⟩
            · rw [List.nodup_append]
              exact ⟨F'.nd, by simp, fun u hu v hv e => z.2 (by rw [List.mem_singleton.mp hv] at e; rw [← e]; exact hu)⟩
            · rcases List.mem_append.mp hv with hv | hv
              · exact F'.rh v hv
              · rw [List.mem_singleton.mp hv]
                exact ⟨hqn.2, .step (F'.rh q.1 z.1).2 hkN hq⟩
          · rw [if_neg z]
            exact F'
        · intro hc
          have e := c1 hc
          subst e
          rw [if_neg]
          exact fun z => z.2 (hc k hkN q hq z.1)
        · intro he
          by_cases z : q.1 ∈ fd' ∧ q.2 ∉ fd'
          · rw [if_pos z] at he
            simp at he
            omega
          · rw [if_neg z] at he ⊢
            obtain ⟨e, cl⟩ := c2 he
            refine ⟨e, fun j hj k' q' hk' hq' h1 => ?_⟩
            rcases Nat.lt_succ_iff_lt_or_eq.mp hj with hj | rfl
            · exact cl j hj k' q' hk' hq' h1
            · rw [hk] at hk'
              cases hk'
              rw [hq] at hq'
              cases hq'
              rw [e] at z
              exact Classical.byContradiction fun w => z ⟨h1, w⟩
        · by_cases z : q.1 ∈ fd' ∧ q.2 ∉ fd'
          · rw [if_pos z]
            simp
            omega
          · rw [if_neg z]
            exact c3)
  refine ⟨fd', x5', x6', x7', F', c1, fun he => ?_, c3, ?_⟩
  · obtain ⟨e, cl⟩ := c2 he
    refine ⟨e, fun k hk q hq h1 => ?_⟩
    obtain ⟨j, hj, ej⟩ := List.mem_iff_getElem.mp hk
    exact cl j (by rw [List.length_map]; exact hj) k q (by rw [List.getElem?_eq_getElem hj, ej]) hq h1
  · simp [nm, spE, lsD] at e1
    simp [d_law_is_spread_2, sl_eq, callD_ap, startE, sSeq_ap, sIf_ap, sSet_ap, sRet_ap, sRetN_ap, sDrop_ap, sAsg_ap, sPar2_ap, sFor_ap, sNext_ap, sSetIt_ap, sPairSet_ap, gSetIt_ap, eVar_ap, eC_ap, ePrim_ap, lCons_ap, lNil_ap, lRef_ap, eOwn_ap, eCall_ap, ioW, setIO, setD, ioOut, ioGet, toT_ap, toTr_ap, tfAnd_ap, tfOr_ap, tfNot_ap, tYesF_ap, eIf_ap, eAnd_ap, eOr_ap, eNot_ap, eMut_ap, pName_ap, pSub1_ap, hasP, hasT, tyD, storL, storable, getP, setP, opApp, opIns, opPop, opClear, opExt, opSet, putE, putV, freeze, frz1, newAll, allNew, Mode.frz, Mode.w, Mode.new, retOk, D.atom, D.atomL, D.flat, D.tru, D.node, D.items, D.isNon, gSet_ap, gsNil, gsCons, gTupE, gSeqE, bindN, putP, iSeq_ap, iRg_ap, iEnm_ap, rg1_ap, rg2_ap, eListRg_ap, oNone_ap, oSome_ap, eSlice_ap, pSlice, pTup_ap, pLst_ap, pI2, pNeg, pAdd, pMul, pEq_int, pEq_bl, pEq_str, pEq_nm, pEq_nil, pIsN, pIx, pLen, pAbs, pMin, pMax, pDivmod, pInt, pList, pTuple, pSumA, pAll, pAny, pIn_lst, pIn_tup, pIsi, D.tyn, isiB, flatD, keyD, Kind.S, wipeE, eDict0_ap, eDict1_ap, pGet, nm, atomL_app, atI_0, atI_1, atI_2, atI_3, lsD, e1]
theorem lsp_ok (h2 : n ≤ 9) (hr : r < n) (hps : ∀ q ∈ ps, q.1 < n ∧ q.2 < n) (hN : ∀ k ∈ N, k < ps.length) (hl : N.length ≤ 60) {G' : List Nat} (hG : sortI ((N.map (goal ps)).map fun (k : Nat) => (k : Int)) = G'.map fun (k : Nat) => (k : Int)) :
    ∃ c : Bool, f_law_is_spread [webD n ps, nm r, lsD N] = some (.bl (c && decide (G' = othL n r)), []) ∧ (c = true ↔ ∀ v, v < n → Rh ps N r v) := by
  obtain ⟨E', e1, fd, x4, x5, x6, x7, F, hcl, rfl⟩ := forL_inv (g := gSet (.pr true) 4) (b := d_law_is_spread_2) (ds := (List.range n).map nm) (E := spE n ps r N [r] none none none none none)
    (fun i E => ∃ fd x4 x5 x6 x7, Fd n r ps N fd ∧ (ClsF ps N fd ∨ i + 1 ≤ fd.length) ∧ E = spE n ps r N fd x4 x5 x6 x7 none)
    ⟨[r], none, none, none, none, ⟨by simp, by simp, fun v hv => by rw [List.mem_singleton.mp hv]; exact ⟨hr, .root⟩⟩, .inr (by simp), rfl⟩ (by
      rintro i d E hd ⟨fd, x4, x5, x6, x7, F, hcl, rfl⟩
      obtain ⟨hi, rfl⟩ := rg_get hd
      obtain ⟨fd', x5', x6', x7', F', c1, c2, c3, e⟩ := sp_turn (x4 := some (.own, nm i)) (x5 := x5) (x6 := x6) (x7 := x7) (x8 := none) h2 hps hN F
      refine ⟨spE n ps r N fd (some (.own, nm i)) x5 x6 x7 none, _, by simp [sl_eq, callD_ap, startE, sSeq_ap, sIf_ap, sSet_ap, sRet_ap, sRetN_ap, sDrop_ap, sAsg_ap, sPar2_ap, sFor_ap, sNext_ap, sSetIt_ap, sPairSet_ap, gSetIt_ap, eVar_ap, eC_ap, ePrim_ap, lCons_ap, lNil_ap, lRef_ap, eOwn_ap, eCall_ap, ioW, setIO, setD, ioOut, ioGet, toT_ap, toTr_ap, tfAnd_ap, tfOr_ap, tfNot_ap, tYesF_ap, eIf_ap, eAnd_ap, eOr_ap, eNot_ap, eMut_ap, pName_ap, pSub1_ap, hasP, hasT, tyD, storL, storable, getP, setP, opApp, opIns, opPop, opClear, opExt, opSet, putE, putV, freeze, frz1, newAll, allNew, Mode.frz, Mode.w, Mode.new, retOk, D.atom, D.atomL, D.flat, D.tru, D.node, D.items, D.isNon, gSet_ap, gsNil, gsCons, gTupE, gSeqE, bindN, putP, iSeq_ap, iRg_ap, iEnm_ap, rg1_ap, rg2_ap, eListRg_ap, oNone_ap, oSome_ap, eSlice_ap, pSlice, pTup_ap, pLst_ap, pI2, pNeg, pAdd, pMul, pEq_int, pEq_bl, pEq_str, pEq_nm, pEq_nil, pIsN, pIx, pLen, pAbs, pMin, pMax, pDivmod, pInt, pList, pTuple, pSumA, pAll, pAny, pIn_lst, pIn_tup, pIsi, D.tyn, isiB, flatD, keyD, Kind.S, wipeE, eDict0_ap, eDict1_ap, pGet, nm, atomL_app, atI_0, atI_1, atI_2, atI_3], e, _, _, _, _, _, F', ?_, rfl⟩
      rcases hcl with hcl | hcl
      · rw [c1 hcl]
        exact .inl hcl
      · by_cases z : fd'.length = fd.length
        · obtain ⟨e1, e2⟩ := c2 z
          rw [e1]
          exact .inl e2
        · exact .inr (by omega))
  rw [List.length_map, List.length_range] at hcl
  have hsz := F.size
  have cl : ClsF ps N fd := hcl.resolve_right (by omega)
  have all : ∀ v, Rh ps N r v → v ∈ fd := fun v h => by
    induction h with
    | root => exact F.hr
    | step _ hk hq ih => exact cl _ hk _ hq ih
  refine ⟨decide (fd.length = n), ?_, ?_⟩
  · have lc : eLc (.sub 2) (iSeq (eVar 2)) (fun b => (gSet (.pr b) 5)) tYesF d_law_is_spread_3 [5] [] (spE n ps r N fd x4 x5 x6 x7 none) = some (.lst ((N.map (goal ps)).map nm), spE n ps r N fd x4 x5 x6 x7 none) := by
      have := lcL_map (g := gSet (.pr false) 5) (t := tYesF) (f := d_law_is_spread_3) (vs := [5]) (ds := N.map nm) (E := spE n ps r N fd x4 none x6 x7 none) (gD ps) (by
        intro d hd
        obtain ⟨k, hk, rfl⟩ := List.mem_map.mp hd
        obtain ⟨q, j0, hq, gk⟩ := ix_goal (hN k hk)
        refine ⟨spE n ps r N fd x4 (some (.own, nm k)) x6 x7 none, spE n ps r N fd x4 (some (.own, nm k)) x6 x7 none, by simp [sl_eq, callD_ap, startE, sSeq_ap, sIf_ap, sSet_ap, sRet_ap, sRetN_ap, sDrop_ap, sAsg_ap, sPar2_ap, sFor_ap, sNext_ap, sSetIt_ap, sPairSet_ap, gSetIt_ap, eVar_ap, eC_ap, ePrim_ap, lCons_ap, lNil_ap, lRef_ap, eOwn_ap, eCall_ap, ioW, setIO, setD, ioOut, ioGet, toT_ap, toTr_ap, tfAnd_ap, tfOr_ap, tfNot_ap, tYesF_ap, eIf_ap, eAnd_ap, eOr_ap, eNot_ap, eMut_ap, pName_ap, pSub1_ap, hasP, hasT, tyD, storL, storable, getP, setP, opApp, opIns, opPop, opClear, opExt, opSet, putE, putV, freeze, frz1, newAll, allNew, Mode.frz, Mode.w, Mode.new, retOk, D.atom, D.atomL, D.flat, D.tru, D.node, D.items, D.isNon, gSet_ap, gsNil, gsCons, gTupE, gSeqE, bindN, putP, iSeq_ap, iRg_ap, iEnm_ap, rg1_ap, rg2_ap, eListRg_ap, oNone_ap, oSome_ap, eSlice_ap, pSlice, pTup_ap, pLst_ap, pI2, pNeg, pAdd, pMul, pEq_int, pEq_bl, pEq_str, pEq_nm, pEq_nil, pIsN, pIx, pLen, pAbs, pMin, pMax, pDivmod, pInt, pList, pTuple, pSumA, pAll, pAny, pIn_lst, pIn_tup, pIsi, D.tyn, isiB, flatD, keyD, Kind.S, wipeE, eDict0_ap, eDict1_ap, pGet, nm, atomL_app, atI_0, atI_1, atI_2, atI_3], rfl, ?_, by simp [wipeE]⟩
        simp [d_law_is_spread_3, sl_eq, callD_ap, startE, sSeq_ap, sIf_ap, sSet_ap, sRet_ap, sRetN_ap, sDrop_ap, sAsg_ap, sPar2_ap, sFor_ap, sNext_ap, sSetIt_ap, sPairSet_ap, gSetIt_ap, eVar_ap, eC_ap, ePrim_ap, lCons_ap, lNil_ap, lRef_ap, eOwn_ap, eCall_ap, ioW, setIO, setD, ioOut, ioGet, toT_ap, toTr_ap, tfAnd_ap, tfOr_ap, tfNot_ap, tYesF_ap, eIf_ap, eAnd_ap, eOr_ap, eNot_ap, eMut_ap, pName_ap, pSub1_ap, hasP, hasT, tyD, storL, storable, getP, setP, opApp, opIns, opPop, opClear, opExt, opSet, putE, putV, freeze, frz1, newAll, allNew, Mode.frz, Mode.w, Mode.new, retOk, D.atom, D.atomL, D.flat, D.tru, D.node, D.items, D.isNon, gSet_ap, gsNil, gsCons, gTupE, gSeqE, bindN, putP, iSeq_ap, iRg_ap, iEnm_ap, rg1_ap, rg2_ap, eListRg_ap, oNone_ap, oSome_ap, eSlice_ap, pSlice, pTup_ap, pLst_ap, pI2, pNeg, pAdd, pMul, pEq_int, pEq_bl, pEq_str, pEq_nm, pEq_nil, pIsN, pIx, pLen, pAbs, pMin, pMax, pDivmod, pInt, pList, pTuple, pSumA, pAll, pAny, pIn_lst, pIn_tup, pIsi, D.tyn, isiB, flatD, keyD, Kind.S, wipeE, eDict0_ap, eDict1_ap, pGet, nm, atomL_app, atI_0, atI_1, atI_2, atI_3, j0, gD, gk])
      rw [gD_map] at this
      exact eLc_eq (E1 := spE n ps r N fd x4 x5 x6 x7 none) (ds := N.map nm) (by simp [sl_eq, callD_ap, startE, sSeq_ap, sIf_ap, sSet_ap, sRet_ap, sRetN_ap, sDrop_ap, sAsg_ap, sPar2_ap, sFor_ap, sNext_ap, sSetIt_ap, sPairSet_ap, gSetIt_ap, eVar_ap, eC_ap, ePrim_ap, lCons_ap, lNil_ap, lRef_ap, eOwn_ap, eCall_ap, ioW, setIO, setD, ioOut, ioGet, toT_ap, toTr_ap, tfAnd_ap, tfOr_ap, tfNot_ap, tYesF_ap, eIf_ap, eAnd_ap, eOr_ap, eNot_ap, eMut_ap, pName_ap, pSub1_ap, hasP, hasT, tyD, storL, storable, getP, setP, opApp, opIns, opPop, opClear, opExt, opSet, putE, putV, freeze, frz1, newAll, allNew, Mode.frz, Mode.w, Mode.new, retOk, D.atom, D.atomL, D.flat, D.tru, D.node, D.items, D.isNon, gSet_ap, gsNil, gsCons, gTupE, gSeqE, bindN, putP, iSeq_ap, iRg_ap, iEnm_ap, rg1_ap, rg2_ap, eListRg_ap, oNone_ap, oSome_ap, eSlice_ap, pSlice, pTup_ap, pLst_ap, pI2, pNeg, pAdd, pMul, pEq_int, pEq_bl, pEq_str, pEq_nm, pEq_nil, pIsN, pIx, pLen, pAbs, pMin, pMax, pDivmod, pInt, pList, pTuple, pSumA, pAll, pAny, pIn_lst, pIn_tup, pIsi, D.tyn, isiB, flatD, keyD, Kind.S, wipeE, eDict0_ap, eDict1_ap, pGet, nm, atomL_app, atI_0, atI_1, atI_2, atI_3]) (by simpa [sl_eq, callD_ap, startE, sSeq_ap, sIf_ap, sSet_ap, sRet_ap, sRetN_ap, sDrop_ap, sAsg_ap, sPar2_ap, sFor_ap, sNext_ap, sSetIt_ap, sPairSet_ap, gSetIt_ap, eVar_ap, eC_ap, ePrim_ap, lCons_ap, lNil_ap, lRef_ap, eOwn_ap, eCall_ap, ioW, setIO, setD, ioOut, ioGet, toT_ap, toTr_ap, tfAnd_ap, tfOr_ap, tfNot_ap, tYesF_ap, eIf_ap, eAnd_ap, eOr_ap, eNot_ap, eMut_ap, pName_ap, pSub1_ap, hasP, hasT, tyD, storL, storable, getP, setP, opApp, opIns, opPop, opClear, opExt, opSet, putE, putV, freeze, frz1, newAll, allNew, Mode.frz, Mode.w, Mode.new, retOk, D.atom, D.atomL, D.flat, D.tru, D.node, D.items, D.isNon, gSet_ap, gsNil, gsCons, gTupE, gSeqE, bindN, putP, iSeq_ap, iRg_ap, iEnm_ap, rg1_ap, rg2_ap, eListRg_ap, oNone_ap, oSome_ap, eSlice_ap, pSlice, pTup_ap, pLst_ap, pI2, pNeg, pAdd, pMul, pEq_int, pEq_bl, pEq_str, pEq_nm, pEq_nil, pIsN, pIx, pLen, pAbs, pMin, pMax, pDivmod, pInt, pList, pTuple, pSumA, pAll, pAny, pIn_lst, pIn_tup, pIsi, D.tyn, isiB, flatD, keyD, Kind.S, wipeE, eDict0_ap, eDict1_ap, pGet, nm, atomL_app, atI_0, atI_1, atI_2, atI_3] using this) (by rw [List.length_map, sizeLine_eq]; omega) (by simp [setM])
    have f2 := rg_nat n
    have f3 := rgOk_nat (n := n) (by omega)
    generalize hGs : N.map (goal ps) = Gs at *
    have lo : eLc .own (iRg (rg1 (ePrim pIx (lCons (eVar 0) (lCons (eC (.int 0)) lNil))))) (fun b => (gSet (.pr b) 9)) d_law_is_spread_5 d_law_is_spread_4 [9] [] (spE n ps r N fd x4 x5 x6 x7 (some (.own, .lst (Gs.map nm)))) = some (lsD (othL n r), spE n ps r N fd x4 x5 x6 x7 (some (.own, .lst (Gs.map nm)))) := by
      obtain ⟨ys, E', e2, rfl, rfl⟩ := lcL_inv (g := gSet (.pr true) 9) (t := d_law_is_spread_5) (f := d_law_is_spread_4) (vs := [9]) (ds := (List.range n).map nm) (E := spE n ps r N fd x4 x5 x6 x7 (some (.own, .lst (Gs.map nm))))
        (fun i acc E => acc = (othL i r).map nm ∧ E = spE n ps r N fd x4 x5 x6 x7 (some (.own, .lst (Gs.map nm)))) ⟨rfl, rfl⟩ (by
          rintro i d acc E hd ⟨rfl, rfl⟩
          obtain ⟨hi, rfl⟩ := rg_get hd
          have hs : othL (i + 1) r = if i ≠ r then othL i r ++ [i] else othL i r := by
            unfold othL
            rw [List.range_succ, List.filter_append]
            by_cases z : i = r <;> simp [z]
          refine ⟨[some (.arg, webD n ps), some (.arg, nm r), some (.arg, lsD N), some (.own, lsD fd), x4, x5, x6, x7, some (.own, .lst (Gs.map nm)), some (.own, nm i)], decide (i ≠ r), [some (.arg, webD n ps), some (.arg, nm r), some (.arg, lsD N), some (.own, lsD fd), x4, x5, x6, x7, some (.own, .lst (Gs.map nm)), some (.own, nm i)], by simp [sl_eq, callD_ap, startE, sSeq_ap, sIf_ap, sSet_ap, sRet_ap, sRetN_ap, sDrop_ap, sAsg_ap, sPar2_ap, sFor_ap, sNext_ap, sSetIt_ap, sPairSet_ap, gSetIt_ap, eVar_ap, eC_ap, ePrim_ap, lCons_ap, lNil_ap, lRef_ap, eOwn_ap, eCall_ap, ioW, setIO, setD, ioOut, ioGet, toT_ap, toTr_ap, tfAnd_ap, tfOr_ap, tfNot_ap, tYesF_ap, eIf_ap, eAnd_ap, eOr_ap, eNot_ap, eMut_ap, pName_ap, pSub1_ap, hasP, hasT, tyD, storL, storable, getP, setP, opApp, opIns, opPop, opClear, opExt, opSet, putE, putV, freeze, frz1, newAll, allNew, Mode.frz, Mode.w, Mode.new, retOk, D.atom, D.atomL, D.flat, D.tru, D.node, D.items, D.isNon, gSet_ap, gsNil, gsCons, gTupE, gSeqE, bindN, putP, iSeq_ap, iRg_ap, iEnm_ap, rg1_ap, rg2_ap, eListRg_ap, oNone_ap, oSome_ap, eSlice_ap, pSlice, pTup_ap, pLst_ap, pI2, pNeg, pAdd, pMul, pEq_int, pEq_bl, pEq_str, pEq_nm, pEq_nil, pIsN, pIx, pLen, pAbs, pMin, pMax, pDivmod, pInt, pList, pTuple, pSumA, pAll, pAny, pIn_lst, pIn_tup, pIsi, D.tyn, isiB, flatD, keyD, Kind.S, wipeE, eDict0_ap, eDict1_ap, pGet, nm, atomL_app, atI_0, atI_1, atI_2, atI_3], ?_, fun z => ⟨by rw [hs, if_neg (of_decide_eq_false z)], by simp [wipeE]⟩, fun z => ⟨nm i, _, by simp [d_law_is_spread_4, sl_eq, callD_ap, startE, sSeq_ap, sIf_ap, sSet_ap, sRet_ap, sRetN_ap, sDrop_ap, sAsg_ap, sPar2_ap, sFor_ap, sNext_ap, sSetIt_ap, sPairSet_ap, gSetIt_ap, eVar_ap, eC_ap, ePrim_ap, lCons_ap, lNil_ap, lRef_ap, eOwn_ap, eCall_ap, ioW, setIO, setD, ioOut, ioGet, toT_ap, toTr_ap, tfAnd_ap, tfOr_ap, tfNot_ap, tYesF_ap, eIf_ap, eAnd_ap, eOr_ap, eNot_ap, eMut_ap, pName_ap, pSub1_ap, hasP, hasT, tyD, storL, storable, getP, setP, opApp, opIns, opPop, opClear, opExt, opSet, putE, putV, freeze, frz1, newAll, allNew, Mode.frz, Mode.w, Mode.new, retOk, D.atom, D.atomL, D.flat, D.tru, D.node, D.items, D.isNon, gSet_ap, gsNil, gsCons, gTupE, gSeqE, bindN, putP, iSeq_ap, iRg_ap, iEnm_ap, rg1_ap, rg2_ap, eListRg_ap, oNone_ap, oSome_ap, eSlice_ap, pSlice, pTup_ap, pLst_ap, pI2, pNeg, pAdd, pMul, pEq_int, pEq_bl, pEq_str, pEq_nm, pEq_nil, pIsN, pIx, pLen, pAbs, pMin, pMax, pDivmod, pInt, pList, pTuple, pSumA, pAll, pAny, pIn_lst, pIn_tup, pIsi, D.tyn, isiB, flatD, keyD, Kind.S, wipeE, eDict0_ap, eDict1_ap, pGet, nm, atomL_app, atI_0, atI_1, atI_2, atI_3] <;> rfl, by rw [hs, if_pos (of_decide_eq_true z)]; simp, by simp [wipeE]⟩⟩
          by_cases z : i = r
          · simp [d_law_is_spread_5, sl_eq, callD_ap, startE, sSeq_ap, sIf_ap, sSet_ap, sRet_ap, sRetN_ap, sDrop_ap, sAsg_ap, sPar2_ap, sFor_ap, sNext_ap, sSetIt_ap, sPairSet_ap, gSetIt_ap, eVar_ap, eC_ap, ePrim_ap, lCons_ap, lNil_ap, lRef_ap, eOwn_ap, eCall_ap, ioW, setIO, setD, ioOut, ioGet, toT_ap, toTr_ap, tfAnd_ap, tfOr_ap, tfNot_ap, tYesF_ap, eIf_ap, eAnd_ap, eOr_ap, eNot_ap, eMut_ap, pName_ap, pSub1_ap, hasP, hasT, tyD, storL, storable, getP, setP, opApp, opIns, opPop, opClear, opExt, opSet, putE, putV, freeze, frz1, newAll, allNew, Mode.frz, Mode.w, Mode.new, retOk, D.atom, D.atomL, D.flat, D.tru, D.node, D.items, D.isNon, gSet_ap, gsNil, gsCons, gTupE, gSeqE, bindN, putP, iSeq_ap, iRg_ap, iEnm_ap, rg1_ap, rg2_ap, eListRg_ap, oNone_ap, oSome_ap, eSlice_ap, pSlice, pTup_ap, pLst_ap, pI2, pNeg, pAdd, pMul, pEq_int, pEq_bl, pEq_str, pEq_nm, pEq_nil, pIsN, pIx, pLen, pAbs, pMin, pMax, pDivmod, pInt, pList, pTuple, pSumA, pAll, pAny, pIn_lst, pIn_tup, pIsi, D.tyn, isiB, flatD, keyD, Kind.S, wipeE, eDict0_ap, eDict1_ap, pGet, nm, atomL_app, atI_0, atI_1, atI_2, atI_3, z]
          · have z' : ¬ (i : Int) = (r : Int) := by omega
            simp [d_law_is_spread_5, sl_eq, callD_ap, startE, sSeq_ap, sIf_ap, sSet_ap, sRet_ap, sRetN_ap, sDrop_ap, sAsg_ap, sPar2_ap, sFor_ap, sNext_ap, sSetIt_ap, sPairSet_ap, gSetIt_ap, eVar_ap, eC_ap, ePrim_ap, lCons_ap, lNil_ap, lRef_ap, eOwn_ap, eCall_ap, ioW, setIO, setD, ioOut, ioGet, toT_ap, toTr_ap, tfAnd_ap, tfOr_ap, tfNot_ap, tYesF_ap, eIf_ap, eAnd_ap, eOr_ap, eNot_ap, eMut_ap, pName_ap, pSub1_ap, hasP, hasT, tyD, storL, storable, getP, setP, opApp, opIns, opPop, opClear, opExt, opSet, putE, putV, freeze, frz1, newAll, allNew, Mode.frz, Mode.w, Mode.new, retOk, D.atom, D.atomL, D.flat, D.tru, D.node, D.items, D.isNon, gSet_ap, gsNil, gsCons, gTupE, gSeqE, bindN, putP, iSeq_ap, iRg_ap, iEnm_ap, rg1_ap, rg2_ap, eListRg_ap, oNone_ap, oSome_ap, eSlice_ap, pSlice, pTup_ap, pLst_ap, pI2, pNeg, pAdd, pMul, pEq_int, pEq_bl, pEq_str, pEq_nm, pEq_nil, pIsN, pIx, pLen, pAbs, pMin, pMax, pDivmod, pInt, pList, pTuple, pSumA, pAll, pAny, pIn_lst, pIn_tup, pIsi, D.tyn, isiB, flatD, keyD, Kind.S, wipeE, eDict0_ap, eDict1_ap, pGet, nm, atomL_app, atI_0, atI_1, atI_2, atI_3, z, z'])
      rw [List.length_map, List.length_range] at e2
      exact eLc_eq (E1 := spE n ps r N fd x4 x5 x6 x7 (some (.own, .lst (Gs.map nm)))) (ds := (List.range n).map nm) (by simp [sl_eq, callD_ap, startE, sSeq_ap, sIf_ap, sSet_ap, sRet_ap, sRetN_ap, sDrop_ap, sAsg_ap, sPar2_ap, sFor_ap, sNext_ap, sSetIt_ap, sPairSet_ap, gSetIt_ap, eVar_ap, eC_ap, ePrim_ap, lCons_ap, lNil_ap, lRef_ap, eOwn_ap, eCall_ap, ioW, setIO, setD, ioOut, ioGet, toT_ap, toTr_ap, tfAnd_ap, tfOr_ap, tfNot_ap, tYesF_ap, eIf_ap, eAnd_ap, eOr_ap, eNot_ap, eMut_ap, pName_ap, pSub1_ap, hasP, hasT, tyD, storL, storable, getP, setP, opApp, opIns, opPop, opClear, opExt, opSet, putE, putV, freeze, frz1, newAll, allNew, Mode.frz, Mode.w, Mode.new, retOk, D.atom, D.atomL, D.flat, D.tru, D.node, D.items, D.isNon, gSet_ap, gsNil, gsCons, gTupE, gSeqE, bindN, putP, iSeq_ap, iRg_ap, iEnm_ap, rg1_ap, rg2_ap, eListRg_ap, oNone_ap, oSome_ap, eSlice_ap, pSlice, pTup_ap, pLst_ap, pI2, pNeg, pAdd, pMul, pEq_int, pEq_bl, pEq_str, pEq_nm, pEq_nil, pIsN, pIx, pLen, pAbs, pMin, pMax, pDivmod, pInt, pList, pTuple, pSumA, pAll, pAny, pIn_lst, pIn_tup, pIsi, D.tyn, isiB, flatD, keyD, Kind.S, wipeE, eDict0_ap, eDict1_ap, pGet, nm, atomL_app, atI_0, atI_1, atI_2, atI_3, f2, f3]) (by simpa [sl_eq, callD_ap, startE, sSeq_ap, sIf_ap, sSet_ap, sRet_ap, sRetN_ap, sDrop_ap, sAsg_ap, sPar2_ap, sFor_ap, sNext_ap, sSetIt_ap, sPairSet_ap, gSetIt_ap, eVar_ap, eC_ap, ePrim_ap, lCons_ap, lNil_ap, lRef_ap, eOwn_ap, eCall_ap, ioW, setIO, setD, ioOut, ioGet, toT_ap, toTr_ap, tfAnd_ap, tfOr_ap, tfNot_ap, tYesF_ap, eIf_ap, eAnd_ap, eOr_ap, eNot_ap, eMut_ap, pName_ap, pSub1_ap, hasP, hasT, tyD, storL, storable, getP, setP, opApp, opIns, opPop, opClear, opExt, opSet, putE, putV, freeze, frz1, newAll, allNew, Mode.frz, Mode.w, Mode.new, retOk, D.atom, D.atomL, D.flat, D.tru, D.node, D.items, D.isNon, gSet_ap, gsNil, gsCons, gTupE, gSeqE, bindN, putP, iSeq_ap, iRg_ap, iEnm_ap, rg1_ap, rg2_ap, eListRg_ap, oNone_ap, oSome_ap, eSlice_ap, pSlice, pTup_ap, pLst_ap, pI2, pNeg, pAdd, pMul, pEq_int, pEq_bl, pEq_str, pEq_nm, pEq_nil, pIsN, pIx, pLen, pAbs, pMin, pMax, pDivmod, pInt, pList, pTuple, pSumA, pAll, pAny, pIn_lst, pIn_tup, pIsi, D.tyn, isiB, flatD, keyD, Kind.S, wipeE, eDict0_ap, eDict1_ap, pGet, nm, atomL_app, atI_0, atI_1, atI_2, atI_3] using e2) (by simp [sizeLine_eq]; omega) (by simp [setM])
    have s1 : pSortedI [.lst (Gs.map nm)] = some (lsD G') := by
      have hGl : Gs.length < 64 := by rw [← hGs, List.length_map]; omega
      simp only [pSortedI, intsD_nm, hG]
      rw [if_pos (by simpa using hGl)]
      rw [List.map_map]
      rfl
    have f5 := atomL_nm Gs
    generalize othL n r = O at *
    simp [nm, lsD, spE] at e1 lc lo s1
    by_cases z : (fd.length : Int) = (n : Int)
    · have z' : fd.length = n := by omega
      by_cases z2 : G' = O
      · subst z2
        simp [f_law_is_spread, d_law_is_spread, sl_eq, callD_ap, startE, sSeq_ap, sIf_ap, sSet_ap, sRet_ap, sRetN_ap, sDrop_ap, sAsg_ap, sPar2_ap, sFor_ap, sNext_ap, sSetIt_ap, sPairSet_ap, gSetIt_ap, eVar_ap, eC_ap, ePrim_ap, lCons_ap, lNil_ap, lRef_ap, eOwn_ap, eCall_ap, ioW, setIO, setD, ioOut, ioGet, toT_ap, toTr_ap, tfAnd_ap, tfOr_ap, tfNot_ap, tYesF_ap, eIf_ap, eAnd_ap, eOr_ap, eNot_ap, eMut_ap, pName_ap, pSub1_ap, hasP, hasT, tyD, storL, storable, getP, setP, opApp, opIns, opPop, opClear, opExt, opSet, putE, putV, freeze, frz1, newAll, allNew, Mode.frz, Mode.w, Mode.new, retOk, D.atom, D.atomL, D.flat, D.tru, D.node, D.items, D.isNon, gSet_ap, gsNil, gsCons, gTupE, gSeqE, bindN, putP, iSeq_ap, iRg_ap, iEnm_ap, rg1_ap, rg2_ap, eListRg_ap, oNone_ap, oSome_ap, eSlice_ap, pSlice, pTup_ap, pLst_ap, pI2, pNeg, pAdd, pMul, pEq_int, pEq_bl, pEq_str, pEq_nm, pEq_nil, pIsN, pIx, pLen, pAbs, pMin, pMax, pDivmod, pInt, pList, pTuple, pSumA, pAll, pAny, pIn_lst, pIn_tup, pIsi, D.tyn, isiB, flatD, keyD, Kind.S, wipeE, eDict0_ap, eDict1_ap, pGet, nm, atomL_app, atI_0, atI_1, atI_2, atI_3, lsD, f2, f3, f5, e1, lc, lo, s1, z, z', sizeLine_eq]
      · simp [f_law_is_spread, d_law_is_spread, sl_eq, callD_ap, startE, sSeq_ap, sIf_ap, sSet_ap, sRet_ap, sRetN_ap, sDrop_ap, sAsg_ap, sPar2_ap, sFor_ap, sNext_ap, sSetIt_ap, sPairSet_ap, gSetIt_ap, eVar_ap, eC_ap, ePrim_ap, lCons_ap, lNil_ap, lRef_ap, eOwn_ap, eCall_ap, ioW, setIO, setD, ioOut, ioGet, toT_ap, toTr_ap, tfAnd_ap, tfOr_ap, tfNot_ap, tYesF_ap, eIf_ap, eAnd_ap, eOr_ap, eNot_ap, eMut_ap, pName_ap, pSub1_ap, hasP, hasT, tyD, storL, storable, getP, setP, opApp, opIns, opPop, opClear, opExt, opSet, putE, putV, freeze, frz1, newAll, allNew, Mode.frz, Mode.w, Mode.new, retOk, D.atom, D.atomL, D.flat, D.tru, D.node, D.items, D.isNon, gSet_ap, gsNil, gsCons, gTupE, gSeqE, bindN, putP, iSeq_ap, iRg_ap, iEnm_ap, rg1_ap, rg2_ap, eListRg_ap, oNone_ap, oSome_ap, eSlice_ap, pSlice, pTup_ap, pLst_ap, pI2, pNeg, pAdd, pMul, pEq_int, pEq_bl, pEq_str, pEq_nm, pEq_nil, pIsN, pIx, pLen, pAbs, pMin, pMax, pDivmod, pInt, pList, pTuple, pSumA, pAll, pAny, pIn_lst, pIn_tup, pIsi, D.tyn, isiB, flatD, keyD, Kind.S, wipeE, eDict0_ap, eDict1_ap, pGet, nm, atomL_app, atI_0, atI_1, atI_2, atI_3, lsD, f2, f3, f5, e1, lc, lo, s1, z, z', z2, sizeLine_eq]
    · have z' : ¬ fd.length = n := by omega
      simp [f_law_is_spread, d_law_is_spread, sl_eq, callD_ap, startE, sSeq_ap, sIf_ap, sSet_ap, sRet_ap, sRetN_ap, sDrop_ap, sAsg_ap, sPar2_ap, sFor_ap, sNext_ap, sSetIt_ap, sPairSet_ap, gSetIt_ap, eVar_ap, eC_ap, ePrim_ap, lCons_ap, lNil_ap, lRef_ap, eOwn_ap, eCall_ap, ioW, setIO, setD, ioOut, ioGet, toT_ap, toTr_ap, tfAnd_ap, tfOr_ap, tfNot_ap, tYesF_ap, eIf_ap, eAnd_ap, eOr_ap, eNot_ap, eMut_ap, pName_ap, pSub1_ap, hasP, hasT, tyD, storL, storable, getP, setP, opApp, opIns, opPop, opClear, opExt, opSet, putE, putV, freeze, frz1, newAll, allNew, Mode.frz, Mode.w, Mode.new, retOk, D.atom, D.atomL, D.flat, D.tru, D.node, D.items, D.isNon, gSet_ap, gsNil, gsCons, gTupE, gSeqE, bindN, putP, iSeq_ap, iRg_ap, iEnm_ap, rg1_ap, rg2_ap, eListRg_ap, oNone_ap, oSome_ap, eSlice_ap, pSlice, pTup_ap, pLst_ap, pI2, pNeg, pAdd, pMul, pEq_int, pEq_bl, pEq_str, pEq_nm, pEq_nil, pIsN, pIx, pLen, pAbs, pMin, pMax, pDivmod, pInt, pList, pTuple, pSumA, pAll, pAny, pIn_lst, pIn_tup, pIsi, D.tyn, isiB, flatD, keyD, Kind.S, wipeE, eDict0_ap, eDict1_ap, pGet, nm, atomL_app, atI_0, atI_1, atI_2, atI_3, lsD, f2, f3, f5, e1, lc, lo, s1, z, z', sizeLine_eq]
  · rw [decide_eq_true_eq]
    constructor
    · intro h v hv
      refine (F.rh v (Classical.byContradiction fun z => ?_)).2
      have := nodup_le (n := n) (l := v :: fd) (List.nodup_cons.mpr ⟨z, F.nd⟩) fun u hu => by
        rcases List.mem_cons.mp hu with rfl | hu
        · exact hv
        · exact (F.rh u hu).1
      simp at this
      omega
    · intro h
      have := full_len (n := n) (l := fd) fun v hv => all v (h v hv)
      omega
/-! ### right -/
theorem right_ok (b : Bool) (h2 : n ≤ 9) (hr : r < n) (hps : ∀ q ∈ ps, q.1 < n ∧ q.2 < n) (hN : ∀ k ∈ N, k < ps.length) (hl : N.length ≤ 60) : f_law_right [webD n ps, nm r, lsD N, .bl b] = some (.bl true, []) := by
  obtain ⟨G', hG, hp, hs⟩ := sortI_pm (N.map (goal ps))
  obtain ⟨c1, e1, h1⟩ := sp_ok (r := r) (NU := lsD N) h2 hps hN hl (.inl rfl) hG
  obtain ⟨c2, e2, h3⟩ := sp_ok (r := r) (NU := .tup (N.map nm)) h2 hps hN hl (.inr rfl) hG
  obtain ⟨c3, e3, h4⟩ := lsp_ok h2 hr hps hN hl hG
  have main : ∀ c, (c = true ↔ Free ps N N.length) → (decide (G' = othL n r) && c) = (c3 && decide (G' = othL n r)) := fun c hc => by
    by_cases z : G' = othL n r
    · rw [decide_eq_true z, Bool.true_and, Bool.and_true]
      rw [Bool.eq_iff_iff, hc, h4]
      exact spread_iff hr hps hN (by rw [← z]; exact hp.symm)
    · rw [decide_eq_false z, Bool.false_and, Bool.and_false]
  have m1 := main c1 h1
  have m2 := main c2 h3
  rw [m1] at e1
  rw [m2] at e2
  generalize (c3 && decide (G' = othL n r)) = cc at *
  simp [nm, lsD] at e1 e2 e3
  cases b
  · simp [f_law_right, d_law_right, sl_eq, callD_ap, startE, sSeq_ap, sIf_ap, sSet_ap, sRet_ap, sRetN_ap, sDrop_ap, sAsg_ap, sPar2_ap, sFor_ap, sNext_ap, sSetIt_ap, sPairSet_ap, gSetIt_ap, eVar_ap, eC_ap, ePrim_ap, lCons_ap, lNil_ap, lRef_ap, eOwn_ap, eCall_ap, ioW, setIO, setD, ioOut, ioGet, toT_ap, toTr_ap, tfAnd_ap, tfOr_ap, tfNot_ap, tYesF_ap, eIf_ap, eAnd_ap, eOr_ap, eNot_ap, eMut_ap, pName_ap, pSub1_ap, hasP, hasT, tyD, storL, storable, getP, setP, opApp, opIns, opPop, opClear, opExt, opSet, putE, putV, freeze, frz1, newAll, allNew, Mode.frz, Mode.w, Mode.new, retOk, D.atom, D.atomL, D.flat, D.tru, D.node, D.items, D.isNon, gSet_ap, gsNil, gsCons, gTupE, gSeqE, bindN, putP, iSeq_ap, iRg_ap, iEnm_ap, rg1_ap, rg2_ap, eListRg_ap, oNone_ap, oSome_ap, eSlice_ap, pSlice, pTup_ap, pLst_ap, pI2, pNeg, pAdd, pMul, pEq_int, pEq_bl, pEq_str, pEq_nm, pEq_nil, pIsN, pIx, pLen, pAbs, pMin, pMax, pDivmod, pInt, pList, pTuple, pSumA, pAll, pAny, pIn_lst, pIn_tup, pIsi, D.tyn, isiB, flatD, keyD, Kind.S, wipeE, eDict0_ap, eDict1_ap, pGet, nm, atomL_app, atI_0, atI_1, atI_2, atI_3, lsD, e1, e2, e3, atomL_nm]
  · simp [f_law_right, d_law_right, sl_eq, callD_ap, startE, sSeq_ap, sIf_ap, sSet_ap, sRet_ap, sRetN_ap, sDrop_ap, sAsg_ap, sPar2_ap, sFor_ap, sNext_ap, sSetIt_ap, sPairSet_ap, gSetIt_ap, eVar_ap, eC_ap, ePrim_ap, lCons_ap, lNil_ap, lRef_ap, eOwn_ap, eCall_ap, ioW, setIO, setD, ioOut, ioGet, toT_ap, toTr_ap, tfAnd_ap, tfOr_ap, tfNot_ap, tYesF_ap, eIf_ap, eAnd_ap, eOr_ap, eNot_ap, eMut_ap, pName_ap, pSub1_ap, hasP, hasT, tyD, storL, storable, getP, setP, opApp, opIns, opPop, opClear, opExt, opSet, putE, putV, freeze, frz1, newAll, allNew, Mode.frz, Mode.w, Mode.new, retOk, D.atom, D.atomL, D.flat, D.tru, D.node, D.items, D.isNon, gSet_ap, gsNil, gsCons, gTupE, gSeqE, bindN, putP, iSeq_ap, iRg_ap, iEnm_ap, rg1_ap, rg2_ap, eListRg_ap, oNone_ap, oSome_ap, eSlice_ap, pSlice, pTup_ap, pLst_ap, pI2, pNeg, pAdd, pMul, pEq_int, pEq_bl, pEq_str, pEq_nm, pEq_nil, pIsN, pIx, pLen, pAbs, pMin, pMax, pDivmod, pInt, pList, pTuple, pSumA, pAll, pAny, pIn_lst, pIn_tup, pIsi, D.tyn, isiB, flatD, keyD, Kind.S, wipeE, eDict0_ap, eDict1_ap, pGet, nm, atomL_app, atI_0, atI_1, atI_2, atI_3, lsD, e1, e2, e3, atomL_nm]
end
end VL
set_option maxHeartbeats 4000000
namespace VL
open PySem PySem.Spec PyProof.Rows L2
section
variable {n r : Nat} {ps : List (Nat × Nat)}
abbrev grE (p : D) (n : Nat) (ps : List (Nat × Nat)) (r : Nat) (cm tk : List Nat) (x5 x6 x7 x8 x9 : Option (Mode × D)) : Env := [some (.io, p), some (.arg, webD n ps), some (.arg, nm r), some (.own, lsD cm), some (.own, lsD tk), x5, x6, x7, x8, x9]
theorem gr_some {p : D} {cm tk : List Nat} {x5 x7 x8 x9 : Option (Mode × D)} (hpl : ps.length ≤ 60) :
    ∃ sm x7' x8' x9', (∀ k ∈ sm, k < ps.length) ∧ sm.length ≤ 60 ∧ forL (gSet (.pr true) 7) d_law_grown_1 ((List.range ps.length).map nm) (grE p n ps r cm tk x5 (some (.own, lsD [])) x7 x8 x9) = some (.nx (grE p n ps r cm tk x5 (some (.own, lsD sm)) x7' x8' x9')) := by
  obtain ⟨E', e1, sm, x7', x8', x9', h1, h2, rfl⟩ := forL_inv (g := gSet (.pr true) 7) (b := d_law_grown_1) (ds := (List.range ps.length).map nm) (E := grE p n ps r cm tk x5 (some (.own, lsD [])) x7 x8 x9)
    (fun i E => ∃ sm x7' x8' x9', (∀ k ∈ sm, k < ps.length) ∧ sm.length ≤ i ∧ E = grE p n ps r cm tk x5 (some (.own, lsD sm)) x7' x8' x9') ⟨[], x7, x8, x9, by simp, by simp, rfl⟩ (by
      rintro i d E hd ⟨sm, x7', x8', x9', h1, h2, rfl⟩
      obtain ⟨hi, rfl⟩ := rg_get hd
      obtain ⟨q, hq⟩ := get_ex hi
      have j0 := atI_nat (ps.map ln) i
      rw [List.getElem?_map, hq] at j0
      simp only [Option.map_some] at j0
      have f1 : sm.length < 16777216 := by omega
      have p1 := pIn_lst false q.1 cm
      have p2 := pIn_lst true q.2 cm
      by_cases z : q.1 ∈ cm ∧ q.2 ∉ cm
      · simp only [decide_eq_true z.1] at p1
        simp only [decide_eq_false z.2] at p2
        refine ⟨grE p n ps r cm tk x5 (some (.own, lsD sm)) (some (.own, nm i)) x8' x9', grE p n ps r cm tk x5 (some (.own, lsD (sm ++ [i]))) (some (.own, nm i)) (some (.own, nm q.1)) (some (.own, nm q.2)), by simp [sl_eq, callD_ap, startE, sSeq_ap, sIf_ap, sSet_ap, sRet_ap, sRetN_ap, sDrop_ap, sAsg_ap, sPar2_ap, sFor_ap, sNext_ap, sSetIt_ap, sPairSet_ap, gSetIt_ap, eVar_ap, eC_ap, ePrim_ap, lCons_ap, lNil_ap, lRef_ap, eOwn_ap, eCall_ap, ioW, setIO, setD, ioOut, ioGet, toT_ap, toTr_ap, tfAnd_ap, tfOr_ap, tfNot_ap, tYesF_ap, eIf_ap, eAnd_ap, eOr_ap, eNot_ap, eMut_ap, pName_ap, pSub1_ap, hasP, hasT, tyD, storL, storable, getP, setP, opApp, opIns, opPop, opClear, opExt, opSet, putE, putV, freeze, frz1, newAll, allNew, Mode.frz, Mode.w, Mode.new, retOk, D.atom, D.atomL, D.flat, D.tru, D.node, D.items, D.isNon, gSet_ap, gsNil, gsCons, gTupE, gSeqE, bindN, putP, iSeq_ap, iRg_ap, iEnm_ap, rg1_ap, rg2_ap, eListRg_ap, oNone_ap, oSome_ap, eSlice_ap, pSlice, pTup_ap, pLst_ap, pI2, pNeg, pAdd, pMul, pEq_int, pEq_bl, pEq_str, pEq_nm, pEq_nil, pIsN, pIx, pLen, pAbs, pMin, pMax, pDivmod, pInt, pList, pTuple, pSumA, pAll, pAny, pIn_lst, pIn_tup, pIsi, D.tyn, isiB, flatD, keyD, Kind.S, wipeE, eDict0_ap, eDict1_ap, pGet, nm, atomL_app, atI_0, atI_1, atI_2, atI_3], ?_, sm ++ [i], _, _, _, ?_, by simp; omega, rfl⟩
        · simp [d_law_grown_1, sl_eq, callD_ap, startE, sSeq_ap, sIf_ap, sSet_ap, sRet_ap, sRetN_ap, sDrop_ap, sAsg_ap, sPar2_ap, sFor_ap, sNext_ap, sSetIt_ap, sPairSet_ap, gSetIt_ap, eVar_ap, eC_ap, ePrim_ap, lCons_ap, lNil_ap, lRef_ap, eOwn_ap, eCall_ap, ioW, setIO, setD, ioOut, ioGet, toT_ap, toTr_ap, tfAnd_ap, tfOr_ap, tfNot_ap, tYesF_ap, eIf_ap, eAnd_ap, eOr_ap, eNot_ap, eMut_ap, pName_ap, pSub1_ap, hasP, hasT, tyD, storL, storable, getP, setP, opApp, opIns, opPop, opClear, opExt, opSet, putE, putV, freeze, frz1, newAll, allNew, Mode.frz, Mode.w, Mode.new, retOk, D.atom, D.atomL, D.flat, D.tru, D.node, D.items, D.isNon, gSet_ap, gsNil, gsCons, gTupE, gSeqE, bindN, putP, iSeq_ap, iRg_ap, iEnm_ap, rg1_ap, rg2_ap, eListRg_ap, oNone_ap, oSome_ap, eSlice_ap, pSlice, pTup_ap, pLst_ap, pI2, pNeg, pAdd, pMul, pEq_int, pEq_bl, pEq_str, pEq_nm, pEq_nil, pIsN, pIx, pLen, pAbs, pMin, pMax, pDivmod, pInt, pList, pTuple, pSumA, pAll, pAny, pIn_lst, pIn_tup, pIsi, D.tyn, isiB, flatD, keyD, Kind.S, wipeE, eDict0_ap, eDict1_ap, pGet, nm, atomL_app, atI_0, atI_1, atI_2, atI_3, lsD, j0, p1, p2, z.1, z.2, f1, sizeLine_eq]
        · intro k hk
          rcases List.mem_append.mp hk with hk | hk
          · exact h1 k hk
          · rw [List.mem_singleton.mp hk]
            exact hi
      · refine ⟨grE p n ps r cm tk x5 (some (.own, lsD sm)) (some (.own, nm i)) x8' x9', grE p n ps r cm tk x5 (some (.own, lsD sm)) (some (.own, nm i)) (some (.own, nm q.1)) (some (.own, nm q.2)), by simp [sl_eq, callD_ap, startE, sSeq_ap, sIf_ap, sSet_ap, sRet_ap, sRetN_ap, sDrop_ap, sAsg_ap, sPar2_ap, sFor_ap, sNext_ap, sSetIt_ap, sPairSet_ap, gSetIt_ap, eVar_ap, eC_ap, ePrim_ap, lCons_ap, lNil_ap, lRef_ap, eOwn_ap, eCall_ap, ioW, setIO, setD, ioOut, ioGet, toT_ap, toTr_ap, tfAnd_ap, tfOr_ap, tfNot_ap, tYesF_ap, eIf_ap, eAnd_ap, eOr_ap, eNot_ap, eMut_ap, pName_ap, pSub1_ap, hasP, hasT, tyD, storL, storable, getP, setP, opApp, opIns, opPop, opClear, opExt, opSet, putE, putV, freeze, frz1, newAll, allNew, Mode.frz, Mode.w, Mode.new, retOk, D.atom, D.atomL, D.flat, D.tru, D.node, D.items, D.isNon, gSet_ap, gsNil, gsCons, gTupE, gSeqE, bindN, putP, iSeq_ap, iRg_ap, iEnm_ap, rg1_ap, rg2_ap, eListRg_ap, oNone_ap, oSome_ap, eSlice_ap, pSlice, pTup_ap, pLst_ap, pI2, pNeg, pAdd, pMul, pEq_int, pEq_bl, pEq_str, pEq_nm, pEq_nil, pIsN, pIx, pLen, pAbs, pMin, pMax, pDivmod, pInt, pList, pTuple, pSumA, pAll, pAny, pIn_lst, pIn_tup, pIsi, D.tyn, isiB, flatD, keyD, Kind.S, wipeE, eDict0_ap, eDict1_ap, pGet, nm, atomL_app, atI_0, atI_1, atI_2, atI_3], ?_, sm, _, _, _, h1, by omega, rfl⟩
        by_cases z1 : q.1 ∈ cm
        · have z2 : q.2 ∈ cm := Classical.byContradiction fun w => z ⟨z1, w⟩
          simp only [decide_eq_true z1] at p1
          simp only [decide_eq_true z2] at p2
          simp [d_law_grown_1, sl_eq, callD_ap, startE, sSeq_ap, sIf_ap, sSet_ap, sRet_ap, sRetN_ap, sDrop_ap, sAsg_ap, sPar2_ap, sFor_ap, sNext_ap, sSetIt_ap, sPairSet_ap, gSetIt_ap, eVar_ap, eC_ap, ePrim_ap, lCons_ap, lNil_ap, lRef_ap, eOwn_ap, eCall_ap, ioW, setIO, setD, ioOut, ioGet, toT_ap, toTr_ap, tfAnd_ap, tfOr_ap, tfNot_ap, tYesF_ap, eIf_ap, eAnd_ap, eOr_ap, eNot_ap, eMut_ap, pName_ap, pSub1_ap, hasP, hasT, tyD, storL, storable, getP, setP, opApp, opIns, opPop, opClear, opExt, opSet, putE, putV, freeze, frz1, newAll, allNew, Mode.frz, Mode.w, Mode.new, retOk, D.atom, D.atomL, D.flat, D.tru, D.node, D.items, D.isNon, gSet_ap, gsNil, gsCons, gTupE, gSeqE, bindN, putP, iSeq_ap, iRg_ap, iEnm_ap, rg1_ap, rg2_ap, eListRg_ap, oNone_ap, oSome_ap, eSlice_ap, pSlice, pTup_ap, pLst_ap, pI2, pNeg, pAdd, pMul, pEq_int, pEq_bl, pEq_str, pEq_nm, pEq_nil, pIsN, pIx, pLen, pAbs, pMin, pMax, pDivmod, pInt, pList, pTuple, pSumA, pAll, pAny, pIn_lst, pIn_tup, pIsi, D.tyn, isiB, flatD, keyD, Kind.S, wipeE, eDict0_ap, eDict1_ap, pGet, nm, atomL_app, atI_0, atI_1, atI_2, atI_3, lsD, j0, p1, p2, z1, z2]
        · simp only [decide_eq_false z1] at p1
          simp [d_law_grown_1, sl_eq, callD_ap, startE, sSeq_ap, sIf_ap, sSet_ap, sRet_ap, sRetN_ap, sDrop_ap, sAsg_ap, sPar2_ap, sFor_ap, sNext_ap, sSetIt_ap, sPairSet_ap, gSetIt_ap, eVar_ap, eC_ap, ePrim_ap, lCons_ap, lNil_ap, lRef_ap, eOwn_ap, eCall_ap, ioW, setIO, setD, ioOut, ioGet, toT_ap, toTr_ap, tfAnd_ap, tfOr_ap, tfNot_ap, tYesF_ap, eIf_ap, eAnd_ap, eOr_ap, eNot_ap, eMut_ap, pName_ap, pSub1_ap, hasP, hasT, tyD, storL, storable, getP, setP, opApp, opIns, opPop, opClear, opExt, opSet, putE, putV, freeze, frz1, newAll, allNew, Mode.frz, Mode.w, Mode.new, retOk, D.atom, D.atomL, D.flat, D.tru, D.node, D.items, D.isNon, gSet_ap, gsNil, gsCons, gTupE, gSeqE, bindN, putP, iSeq_ap, iRg_ap, iEnm_ap, rg1_ap, rg2_ap, eListRg_ap, oNone_ap, oSome_ap, eSlice_ap, pSlice, pTup_ap, pLst_ap, pI2, pNeg, pAdd, pMul, pEq_int, pEq_bl, pEq_str, pEq_nm, pEq_nil, pIsN, pIx, pLen, pAbs, pMin, pMax, pDivmod, pInt, pList, pTuple, pSumA, pAll, pAny, pIn_lst, pIn_tup, pIsi, D.tyn, isiB, flatD, keyD, Kind.S, wipeE, eDict0_ap, eDict1_ap, pGet, nm, atomL_app, atI_0, atI_1, atI_2, atI_3, lsD, j0, p1, z1])
  rw [List.length_map, List.length_range] at h2
  exact ⟨sm, x7', x8', x9', h1, by omega, e1⟩
theorem grown_ok {p : D} (hp : PotD p) (h2 : n ≤ 9) (hpl : ps.length ≤ 60) : ∃ (T : List Nat) (p' : D), PotD p' ∧ (∀ k ∈ T, k < ps.length) ∧ T.length ≤ 9 ∧ f_law_grown [p, webD n ps, nm r] = some (lsD T, [p']) := by
  have g2 := rg_nat ps.length
  have g3 := rgOk_nat (n := ps.length) (by omega)
  obtain ⟨E', e1, p', cm, tk, x5, x6, x7, x8, x9, hp', h1, h3, h4, rfl⟩ := forL_inv (g := gSet (.pr true) 5) (b := d_law_grown_2) (ds := (List.range n).map nm) (E := grE p n ps r [r] [] none none none none none)
    (fun i E => ∃ p' cm tk x5 x6 x7 x8 x9, PotD p' ∧ (∀ k ∈ tk, k < ps.length) ∧ tk.length ≤ i ∧ cm.length ≤ i + 1 ∧ E = grE p' n ps r cm tk x5 x6 x7 x8 x9) ⟨p, [r], [], none, none, none, none, none, hp, by simp, by simp, by simp, rfl⟩ (by
      rintro i d E hd ⟨p', cm, tk, x5, x6, x7, x8, x9, hp', h1, h3, h4, rfl⟩
      obtain ⟨hi, rfl⟩ := rg_get hd
      obtain ⟨sm, x7', x8', x9', s1, s2, e⟩ := gr_some (n := n) (r := r) (p := p') (cm := cm) (tk := tk) (x5 := some (.own, nm i)) (x7 := x7) (x8 := x8) (x9 := x9) hpl
      simp [nm, grE, lsD] at e
      by_cases z : sm = []
      · subst z
        have p2 : pEq true [.lst [], .lst []] = some (.bl false) := pEq_nm true [] []
        simp at e
        refine ⟨grE p' n ps r cm tk (some (.own, nm i)) x6 x7 x8 x9, grE p' n ps r cm tk (some (.own, nm i)) (some (.own, lsD [])) x7' x8' x9', by simp [sl_eq, callD_ap, startE, sSeq_ap, sIf_ap, sSet_ap, sRet_ap, sRetN_ap, sDrop_ap, sAsg_ap, sPar2_ap, sFor_ap, sNext_ap, sSetIt_ap, sPairSet_ap, gSetIt_ap, eVar_ap, eC_ap, ePrim_ap, lCons_ap, lNil_ap, lRef_ap, eOwn_ap, eCall_ap, ioW, setIO, setD, ioOut, ioGet, toT_ap, toTr_ap, tfAnd_ap, tfOr_ap, tfNot_ap, tYesF_ap, eIf_ap, eAnd_ap, eOr_ap, eNot_ap, eMut_ap, pName_ap, pSub1_ap, hasP, hasT, tyD, storL, storable, getP, setP, opApp, opIns, opPop, opClear, opExt, opSet, putE, putV, freeze, frz1, newAll, allNew, Mode.frz, Mode.w, Mode.new, retOk, D.atom, D.atomL, D.flat, D.tru, D.node, D.items, D.isNon, gSet_ap, gsNil, gsCons, gTupE, gSeqE, bindN, putP, iSeq_ap, iRg_ap, iEnm_ap, rg1_ap, rg2_ap, eListRg_ap, oNone_ap, oSome_ap, eSlice_ap, pSlice, pTup_ap, pLst_ap, pI2, pNeg, pAdd, pMul, pEq_int, pEq_bl, pEq_str, pEq_nm, pEq_nil, pIsN, pIx, pLen, pAbs, pMin, pMax, pDivmod, pInt, pList, pTuple, pSumA, pAll, pAny, pIn_lst, pIn_tup, pIsi, D.tyn, isiB, flatD, keyD, Kind.S, wipeE, eDict0_ap, eDict1_ap, pGet, nm, atomL_app, atI_0, atI_1, atI_2, atI_3], ?_, p', cm, tk, _, _, _, _, _, hp', h1, by omega, by omega, rfl⟩
        simp [d_law_grown_2, sl_eq, callD_ap, startE, sSeq_ap, sIf_ap, sSet_ap, sRet_ap, sRetN_ap, sDrop_ap, sAsg_ap, sPar2_ap, sFor_ap, sNext_ap, sSetIt_ap, sPairSet_ap, gSetIt_ap, eVar_ap, eC_ap, ePrim_ap, lCons_ap, lNil_ap, lRef_ap, eOwn_ap, eCall_ap, ioW, setIO, setD, ioOut, ioGet, toT_ap, toTr_ap, tfAnd_ap, tfOr_ap, tfNot_ap, tYesF_ap, eIf_ap, eAnd_ap, eOr_ap, eNot_ap, eMut_ap, pName_ap, pSub1_ap, hasP, hasT, tyD, storL, storable, getP, setP, opApp, opIns, opPop, opClear, opExt, opSet, putE, putV, freeze, frz1, newAll, allNew, Mode.frz, Mode.w, Mode.new, retOk, D.atom, D.atomL, D.flat, D.tru, D.node, D.items, D.isNon, gSet_ap, gsNil, gsCons, gTupE, gSeqE, bindN, putP, iSeq_ap, iRg_ap, iEnm_ap, rg1_ap, rg2_ap, eListRg_ap, oNone_ap, oSome_ap, eSlice_ap, pSlice, pTup_ap, pLst_ap, pI2, pNeg, pAdd, pMul, pEq_int, pEq_bl, pEq_str, pEq_nm, pEq_nil, pIsN, pIx, pLen, pAbs, pMin, pMax, pDivmod, pInt, pList, pTuple, pSumA, pAll, pAny, pIn_lst, pIn_tup, pIsi, D.tyn, isiB, flatD, keyD, Kind.S, wipeE, eDict0_ap, eDict1_ap, pGet, nm, atomL_app, atI_0, atI_1, atI_2, atI_3, lsD, g2, g3, e, p2, sizeLine_eq]
      · have hs0 : 0 < sm.length := List.length_pos_iff.mpr z
        obtain ⟨y, p1, hp1, hy, e2⟩ := take_ok hp' (m := sm.length) (by omega) (by omega)
        obtain ⟨k, hk⟩ := get_ex (l := sm) (i := y) (by omega)
        have hkm := s1 k (List.mem_of_getElem? hk)
        obtain ⟨q, j0, hq, gk⟩ := ix_goal hkm
        have j1 := atI_nat (sm.map nm) y
        rw [List.getElem?_map, hk] at j1
        simp only [Option.map_some] at j1
        have f1 : tk.length < 16777216 := by omega
        have f2 : cm.length < 16777216 := by omega
        refine ⟨grE p' n ps r cm tk (some (.own, nm i)) x6 x7 x8 x9, grE p1 n ps r (cm ++ [q.2]) (tk ++ [k]) (some (.own, nm i)) (some (.own, lsD sm)) (some (.own, nm k)) x8' x9', by simp [sl_eq, callD_ap, startE, sSeq_ap, sIf_ap, sSet_ap, sRet_ap, sRetN_ap, sDrop_ap, sAsg_ap, sPar2_ap, sFor_ap, sNext_ap, sSetIt_ap, sPairSet_ap, gSetIt_ap, eVar_ap, eC_ap, ePrim_ap, lCons_ap, lNil_ap, lRef_ap, eOwn_ap, eCall_ap, ioW, setIO, setD, ioOut, ioGet, toT_ap, toTr_ap, tfAnd_ap, tfOr_ap, tfNot_ap, tYesF_ap, eIf_ap, eAnd_ap, eOr_ap, eNot_ap, eMut_ap, pName_ap, pSub1_ap, hasP, hasT, tyD, storL, storable, getP, setP, opApp, opIns, opPop, opClear, opExt, opSet, putE, putV, freeze, frz1, newAll, allNew, Mode.frz, Mode.w, Mode.new, retOk, D.atom, D.atomL, D.flat, D.tru, D.node, D.items, D.isNon, gSet_ap, gsNil, gsCons, gTupE, gSeqE, bindN, putP, iSeq_ap, iRg_ap, iEnm_ap, rg1_ap, rg2_ap, eListRg_ap, oNone_ap, oSome_ap, eSlice_ap, pSlice, pTup_ap, pLst_ap, pI2, pNeg, pAdd, pMul, pEq_int, pEq_bl, pEq_str, pEq_nm, pEq_nil, pIsN, pIx, pLen, pAbs, pMin, pMax, pDivmod, pInt, pList, pTuple, pSumA, pAll, pAny, pIn_lst, pIn_tup, pIsi, D.tyn, isiB, flatD, keyD, Kind.S, wipeE, eDict0_ap, eDict1_ap, pGet, nm, atomL_app, atI_0, atI_1, atI_2, atI_3], ?_, p1, _, _, _, _, _, _, _, hp1, ?_, by simp; omega, by simp; omega, rfl⟩
        · simp [d_law_grown_2, sl_eq, callD_ap, startE, sSeq_ap, sIf_ap, sSet_ap, sRet_ap, sRetN_ap, sDrop_ap, sAsg_ap, sPar2_ap, sFor_ap, sNext_ap, sSetIt_ap, sPairSet_ap, gSetIt_ap, eVar_ap, eC_ap, ePrim_ap, lCons_ap, lNil_ap, lRef_ap, eOwn_ap, eCall_ap, ioW, setIO, setD, ioOut, ioGet, toT_ap, toTr_ap, tfAnd_ap, tfOr_ap, tfNot_ap, tYesF_ap, eIf_ap, eAnd_ap, eOr_ap, eNot_ap, eMut_ap, pName_ap, pSub1_ap, hasP, hasT, tyD, storL, storable, getP, setP, opApp, opIns, opPop, opClear, opExt, opSet, putE, putV, freeze, frz1, newAll, allNew, Mode.frz, Mode.w, Mode.new, retOk, D.atom, D.atomL, D.flat, D.tru, D.node, D.items, D.isNon, gSet_ap, gsNil, gsCons, gTupE, gSeqE, bindN, putP, iSeq_ap, iRg_ap, iEnm_ap, rg1_ap, rg2_ap, eListRg_ap, oNone_ap, oSome_ap, eSlice_ap, pSlice, pTup_ap, pLst_ap, pI2, pNeg, pAdd, pMul, pEq_int, pEq_bl, pEq_str, pEq_nm, pEq_nil, pIsN, pIx, pLen, pAbs, pMin, pMax, pDivmod, pInt, pList, pTuple, pSumA, pAll, pAny, pIn_lst, pIn_tup, pIsi, D.tyn, isiB, flatD, keyD, Kind.S, wipeE, eDict0_ap, eDict1_ap, pGet, nm, atomL_app, atI_0, atI_1, atI_2, atI_3, lsD, g2, g3, e, z, e2, j1, j0, f1, f2, sizeLine_eq]
        · intro j hj
          rcases List.mem_append.mp hj with hj | hj
          · exact h1 j hj
          · rw [List.mem_singleton.mp hj]
            exact hkm)
  rw [List.length_map, List.length_range] at h3
  obtain ⟨T, t1, t2, t3⟩ := sortI_nm tk
  refine ⟨T, p', hp', fun k hk => h1 k (t2 k hk), by omega, ?_⟩
  have f2 := rg_nat n
  have f3 := rgOk_nat (n := n) (by omega)
  have f6 : tk.length < 64 := by omega
  have f7 : (T.map fun (k : Nat) => (k : Int)).map D.int = T.map nm := by rw [List.map_map]; rfl
  simp [nm, grE, lsD] at e1
  simp [f_law_grown, d_law_grown, sl_eq, callD_ap, startE, sSeq_ap, sIf_ap, sSet_ap, sRet_ap, sRetN_ap, sDrop_ap, sAsg_ap, sPar2_ap, sFor_ap, sNext_ap, sSetIt_ap, sPairSet_ap, gSetIt_ap, eVar_ap, eC_ap, ePrim_ap, lCons_ap, lNil_ap, lRef_ap, eOwn_ap, eCall_ap, ioW, setIO, setD, ioOut, ioGet, toT_ap, toTr_ap, tfAnd_ap, tfOr_ap, tfNot_ap, tYesF_ap, eIf_ap, eAnd_ap, eOr_ap, eNot_ap, eMut_ap, pName_ap, pSub1_ap, hasP, hasT, tyD, storL, storable, getP, setP, opApp, opIns, opPop, opClear, opExt, opSet, putE, putV, freeze, frz1, newAll, allNew, Mode.frz, Mode.w, Mode.new, retOk, D.atom, D.atomL, D.flat, D.tru, D.node, D.items, D.isNon, gSet_ap, gsNil, gsCons, gTupE, gSeqE, bindN, putP, iSeq_ap, iRg_ap, iEnm_ap, rg1_ap, rg2_ap, eListRg_ap, oNone_ap, oSome_ap, eSlice_ap, pSlice, pTup_ap, pLst_ap, pI2, pNeg, pAdd, pMul, pEq_int, pEq_bl, pEq_str, pEq_nm, pEq_nil, pIsN, pIx, pLen, pAbs, pMin, pMax, pDivmod, pInt, pList, pTuple, pSumA, pAll, pAny, pIn_lst, pIn_tup, pIsi, D.tyn, isiB, flatD, keyD, Kind.S, wipeE, eDict0_ap, eDict1_ap, pGet, nm, atomL_app, atI_0, atI_1, atI_2, atI_3, lsD, pSortedI, intsD_nm, f2, f3, e1, t1, f6, f7, sizeLine_eq]
abbrev nuE (p : D) (n : Nat) (ps : List (Nat × Nat)) (r w : Nat) (x5 x6 : Option (Mode × D)) : Env := [some (.io, p), some (.arg, webD n ps), some (.arg, nm r), some (.own, nm w), some (.own, nm ps.length), x5, x6, none]
theorem numbers_ok {p : D} (hp : PotD p) (h2 : n ≤ 9) (hpl : ps.length ≤ 60) : ∃ (N : List Nat) (p' : D), PotD p' ∧ (∀ k ∈ N, k < ps.length) ∧ N.length ≤ 60 ∧ f_law_numbers [p, webD n ps, nm r] = some (lsD N, [p']) := by
  have main : ∃ (N : List Nat) (p' : D) (E : Env), PotD p' ∧ (∀ k ∈ N, k < ps.length) ∧ N.length ≤ 60 ∧ ioGet E 0 = some p' ∧ d_law_numbers [some (.io, p), some (.arg, webD n ps), some (.arg, nm r), none, none, none, none, none] = some (.rt (lsD N) E) := by
    obtain ⟨w, p1, hp1, hw, e1⟩ := take_ok hp (m := 6) (by omega) (by omega)
    have g1 : sSet 3 .own (eCall f_law_take [0] (lCons (eVar 0) (lCons (eC (.int 6)) lNil))) [some (.io, p), some (.arg, webD n ps), some (.arg, nm r), none, none, none, none, none] = some (.nx [some (.io, p1), some (.arg, webD n ps), some (.arg, nm r), some (.own, nm w), none, none, none, none]) := by
      simp [sl_eq, callD_ap, startE, sSeq_ap, sIf_ap, sSet_ap, sRet_ap, sRetN_ap, sDrop_ap, sAsg_ap, sPar2_ap, sFor_ap, sNext_ap, sSetIt_ap, sPairSet_ap, gSetIt_ap, eVar_ap, eC_ap, ePrim_ap, lCons_ap, lNil_ap, lRef_ap, eOwn_ap, eCall_ap, ioW, setIO, setD, ioOut, ioGet, toT_ap, toTr_ap, tfAnd_ap, tfOr_ap, tfNot_ap, tYesF_ap, eIf_ap, eAnd_ap, eOr_ap, eNot_ap, eMut_ap, pName_ap, pSub1_ap, hasP, hasT, tyD, storL, storable, getP, setP, opApp, opIns, opPop, opClear, opExt, opSet, putE, putV, freeze, frz1, newAll, allNew, Mode.frz, Mode.w, Mode.new, retOk, D.atom, D.atomL, D.flat, D.tru, D.node, D.items, D.isNon, gSet_ap, gsNil, gsCons, gTupE, gSeqE, bindN, putP, iSeq_ap, iRg_ap, iEnm_ap, rg1_ap, rg2_ap, eListRg_ap, oNone_ap, oSome_ap, eSlice_ap, pSlice, pTup_ap, pLst_ap, pI2, pNeg, pAdd, pMul, pEq_int, pEq_bl, pEq_str, pEq_nm, pEq_nil, pIsN, pIx, pLen, pAbs, pMin, pMax, pDivmod, pInt, pList, pTuple, pSumA, pAll, pAny, pIn_lst, pIn_tup, pIsi, D.tyn, isiB, flatD, keyD, Kind.S, wipeE, eDict0_ap, eDict1_ap, pGet, nm, atomL_app, atI_0, atI_1, atI_2, atI_3, e1]
    have g2 : sSet 4 .own (ePrim pLen (lCons (ePrim pIx (lCons (eVar 1) (lCons (eC (.int 1)) lNil))) lNil)) [some (.io, p1), some (.arg, webD n ps), some (.arg, nm r), some (.own, nm w), none, none, none, none] = some (.nx (nuE p1 n ps r w none none)) := by
      simp [sl_eq, callD_ap, startE, sSeq_ap, sIf_ap, sSet_ap, sRet_ap, sRetN_ap, sDrop_ap, sAsg_ap, sPar2_ap, sFor_ap, sNext_ap, sSetIt_ap, sPairSet_ap, gSetIt_ap, eVar_ap, eC_ap, ePrim_ap, lCons_ap, lNil_ap, lRef_ap, eOwn_ap, eCall_ap, ioW, setIO, setD, ioOut, ioGet, toT_ap, toTr_ap, tfAnd_ap, tfOr_ap, tfNot_ap, tYesF_ap, eIf_ap, eAnd_ap, eOr_ap, eNot_ap, eMut_ap, pName_ap, pSub1_ap, hasP, hasT, tyD, storL, storable, getP, setP, opApp, opIns, opPop, opClear, opExt, opSet, putE, putV, freeze, frz1, newAll, allNew, Mode.frz, Mode.w, Mode.new, retOk, D.atom, D.atomL, D.flat, D.tru, D.node, D.items, D.isNon, gSet_ap, gsNil, gsCons, gTupE, gSeqE, bindN, putP, iSeq_ap, iRg_ap, iEnm_ap, rg1_ap, rg2_ap, eListRg_ap, oNone_ap, oSome_ap, eSlice_ap, pSlice, pTup_ap, pLst_ap, pI2, pNeg, pAdd, pMul, pEq_int, pEq_bl, pEq_str, pEq_nm, pEq_nil, pIsN, pIx, pLen, pAbs, pMin, pMax, pDivmod, pInt, pList, pTuple, pSumA, pAll, pAny, pIn_lst, pIn_tup, pIsi, D.tyn, isiB, flatD, keyD, Kind.S, wipeE, eDict0_ap, eDict1_ap, pGet, nm, atomL_app, atI_0, atI_1, atI_2, atI_3]
    unfold d_law_numbers
    rw [sSeq_ap, g1]
    dsimp only
    rw [sSeq_ap, g2]
    dsimp only
    by_cases hw0 : w = 0
    · subst hw0
      obtain ⟨ys, E', e2, p', ss, m1, m3, m4, rfl, rfl⟩ := lcL_inv (g := gSet (.pr true) 7) (t := d_law_numbers_2) (f := d_law_numbers_1) (vs := [7]) (ds := (List.range ps.length).map nm) (E := nuE p1 n ps r 0 none none)
        (fun i acc E => ∃ (p' : D) (ss : List Nat), PotD p' ∧ (∀ a ∈ ss, a < i) ∧ ss.length ≤ i ∧ acc = ss.map nm ∧ E = nuE p' n ps r 0 none none)
        ⟨p1, [], hp1, by simp, by simp, rfl, rfl⟩ (by
          rintro i d acc E hd ⟨p', ss, m1, m3, m4, rfl, rfl⟩
          obtain ⟨hi', rfl⟩ := rg_get hd
          obtain ⟨a, p2, k1, k2, k3⟩ := take_ok m1 (m := 3) (by omega) (by omega)
          refine ⟨[some (.io, p'), some (.arg, webD n ps), some (.arg, nm r), some (.own, nm 0), some (.own, nm ps.length), none, none, some (.own, nm i)], decide (a = 0), [some (.io, p2), some (.arg, webD n ps), some (.arg, nm r), some (.own, nm 0), some (.own, nm ps.length), none, none, some (.own, nm i)], by simp [sl_eq, callD_ap, startE, sSeq_ap, sIf_ap, sSet_ap, sRet_ap, sRetN_ap, sDrop_ap, sAsg_ap, sPar2_ap, sFor_ap, sNext_ap, sSetIt_ap, sPairSet_ap, gSetIt_ap, eVar_ap, eC_ap, ePrim_ap, lCons_ap, lNil_ap, lRef_ap, eOwn_ap, eCall_ap, ioW, setIO, setD, ioOut, ioGet, toT_ap, toTr_ap, tfAnd_ap, tfOr_ap, tfNot_ap, tYesF_ap, eIf_ap, eAnd_ap, eOr_ap, eNot_ap, eMut_ap, pName_ap, pSub1_ap, hasP, hasT, tyD, storL, storable, getP, setP, opApp, opIns, opPop, opClear, opExt, opSet, putE, putV, freeze, frz1, newAll, allNew, Mode.frz, Mode.w, Mode.new, retOk, D.atom, D.atomL, D.flat, D.tru, D.node, D.items, D.isNon, gSet_ap, gsNil, gsCons, gTupE, gSeqE, bindN, putP, iSeq_ap, iRg_ap, iEnm_ap, rg1_ap, rg2_ap, eListRg_ap, oNone_ap, oSome_ap, eSlice_ap, pSlice, pTup_ap, pLst_ap, pI2, pNeg, pAdd, pMul, pEq_int, pEq_bl, pEq_str, pEq_nm, pEq_nil, pIsN, pIx, pLen, pAbs, pMin, pMax, pDivmod, pInt, pList, pTuple, pSumA, pAll, pAny, pIn_lst, pIn_tup, pIsi, D.tyn, isiB, flatD, keyD, Kind.S, wipeE, eDict0_ap, eDict1_ap, pGet, nm, atomL_app, atI_0, atI_1, atI_2, atI_3], ?_, fun z => ?_, fun z => ?_⟩
          · simp [d_law_numbers_2, sl_eq, callD_ap, startE, sSeq_ap, sIf_ap, sSet_ap, sRet_ap, sRetN_ap, sDrop_ap, sAsg_ap, sPar2_ap, sFor_ap, sNext_ap, sSetIt_ap, sPairSet_ap, gSetIt_ap, eVar_ap, eC_ap, ePrim_ap, lCons_ap, lNil_ap, lRef_ap, eOwn_ap, eCall_ap, ioW, setIO, setD, ioOut, ioGet, toT_ap, toTr_ap, tfAnd_ap, tfOr_ap, tfNot_ap, tYesF_ap, eIf_ap, eAnd_ap, eOr_ap, eNot_ap, eMut_ap, pName_ap, pSub1_ap, hasP, hasT, tyD, storL, storable, getP, setP, opApp, opIns, opPop, opClear, opExt, opSet, putE, putV, freeze, frz1, newAll, allNew, Mode.frz, Mode.w, Mode.new, retOk, D.atom, D.atomL, D.flat, D.tru, D.node, D.items, D.isNon, gSet_ap, gsNil, gsCons, gTupE, gSeqE, bindN, putP, iSeq_ap, iRg_ap, iEnm_ap, rg1_ap, rg2_ap, eListRg_ap, oNone_ap, oSome_ap, eSlice_ap, pSlice, pTup_ap, pLst_ap, pI2, pNeg, pAdd, pMul, pEq_int, pEq_bl, pEq_str, pEq_nm, pEq_nil, pIsN, pIx, pLen, pAbs, pMin, pMax, pDivmod, pInt, pList, pTuple, pSumA, pAll, pAny, pIn_lst, pIn_tup, pIsi, D.tyn, isiB, flatD, keyD, Kind.S, wipeE, eDict0_ap, eDict1_ap, pGet, nm, atomL_app, atI_0, atI_1, atI_2, atI_3, k3]
          · exact ⟨p2, ss, k1, fun b hb => by have := m3 b hb; omega, by omega, rfl, by simp [wipeE]⟩
          · refine ⟨nm i, _, by simp [d_law_numbers_1, sl_eq, callD_ap, startE, sSeq_ap, sIf_ap, sSet_ap, sRet_ap, sRetN_ap, sDrop_ap, sAsg_ap, sPar2_ap, sFor_ap, sNext_ap, sSetIt_ap, sPairSet_ap, gSetIt_ap, eVar_ap, eC_ap, ePrim_ap, lCons_ap, lNil_ap, lRef_ap, eOwn_ap, eCall_ap, ioW, setIO, setD, ioOut, ioGet, toT_ap, toTr_ap, tfAnd_ap, tfOr_ap, tfNot_ap, tYesF_ap, eIf_ap, eAnd_ap, eOr_ap, eNot_ap, eMut_ap, pName_ap, pSub1_ap, hasP, hasT, tyD, storL, storable, getP, setP, opApp, opIns, opPop, opClear, opExt, opSet, putE, putV, freeze, frz1, newAll, allNew, Mode.frz, Mode.w, Mode.new, retOk, D.atom, D.atomL, D.flat, D.tru, D.node, D.items, D.isNon, gSet_ap, gsNil, gsCons, gTupE, gSeqE, bindN, putP, iSeq_ap, iRg_ap, iEnm_ap, rg1_ap, rg2_ap, eListRg_ap, oNone_ap, oSome_ap, eSlice_ap, pSlice, pTup_ap, pLst_ap, pI2, pNeg, pAdd, pMul, pEq_int, pEq_bl, pEq_str, pEq_nm, pEq_nil, pIsN, pIx, pLen, pAbs, pMin, pMax, pDivmod, pInt, pList, pTuple, pSumA, pAll, pAny, pIn_lst, pIn_tup, pIsi, D.tyn, isiB, flatD, keyD, Kind.S, wipeE, eDict0_ap, eDict1_ap, pGet, nm, atomL_app, atI_0, atI_1, atI_2, atI_3] <;> rfl, p2, ss ++ [i], k1, ?_, ?_, by simp, by simp [wipeE]⟩
            · intro b hb
              rcases List.mem_append.mp hb with hb | hb
              · have := m3 b hb; omega
              · rw [List.mem_singleton.mp hb]; omega
            · simp; omega)
      simp at m4 m3
      have f2 := rg_nat ps.length
      have f3 := rgOk_nat (n := ps.length) (by omega)
      have f4 : eLc .own (iRg (rg1 (eVar 4))) (fun b => (gSet (.pr b) 7)) d_law_numbers_2 d_law_numbers_1 [7] [0] (nuE p1 n ps r 0 none none) = some (.lst (ss.map nm), nuE p' n ps r 0 none none) :=
        eLc_eq (E1 := nuE p1 n ps r 0 none none) (ds := (List.range ps.length).map nm) (by simp [sl_eq, callD_ap, startE, sSeq_ap, sIf_ap, sSet_ap, sRet_ap, sRetN_ap, sDrop_ap, sAsg_ap, sPar2_ap, sFor_ap, sNext_ap, sSetIt_ap, sPairSet_ap, gSetIt_ap, eVar_ap, eC_ap, ePrim_ap, lCons_ap, lNil_ap, lRef_ap, eOwn_ap, eCall_ap, ioW, setIO, setD, ioOut, ioGet, toT_ap, toTr_ap, tfAnd_ap, tfOr_ap, tfNot_ap, tYesF_ap, eIf_ap, eAnd_ap, eOr_ap, eNot_ap, eMut_ap, pName_ap, pSub1_ap, hasP, hasT, tyD, storL, storable, getP, setP, opApp, opIns, opPop, opClear, opExt, opSet, putE, putV, freeze, frz1, newAll, allNew, Mode.frz, Mode.w, Mode.new, retOk, D.atom, D.atomL, D.flat, D.tru, D.node, D.items, D.isNon, gSet_ap, gsNil, gsCons, gTupE, gSeqE, bindN, putP, iSeq_ap, iRg_ap, iEnm_ap, rg1_ap, rg2_ap, eListRg_ap, oNone_ap, oSome_ap, eSlice_ap, pSlice, pTup_ap, pLst_ap, pI2, pNeg, pAdd, pMul, pEq_int, pEq_bl, pEq_str, pEq_nm, pEq_nil, pIsN, pIx, pLen, pAbs, pMin, pMax, pDivmod, pInt, pList, pTuple, pSumA, pAll, pAny, pIn_lst, pIn_tup, pIsi, D.tyn, isiB, flatD, keyD, Kind.S, wipeE, eDict0_ap, eDict1_ap, pGet, nm, atomL_app, atI_0, atI_1, atI_2, atI_3, f2, f3]) (by simpa [sl_eq, callD_ap, startE, sSeq_ap, sIf_ap, sSet_ap, sRet_ap, sRetN_ap, sDrop_ap, sAsg_ap, sPar2_ap, sFor_ap, sNext_ap, sSetIt_ap, sPairSet_ap, gSetIt_ap, eVar_ap, eC_ap, ePrim_ap, lCons_ap, lNil_ap, lRef_ap, eOwn_ap, eCall_ap, ioW, setIO, setD, ioOut, ioGet, toT_ap, toTr_ap, tfAnd_ap, tfOr_ap, tfNot_ap, tYesF_ap, eIf_ap, eAnd_ap, eOr_ap, eNot_ap, eMut_ap, pName_ap, pSub1_ap, hasP, hasT, tyD, storL, storable, getP, setP, opApp, opIns, opPop, opClear, opExt, opSet, putE, putV, freeze, frz1, newAll, allNew, Mode.frz, Mode.w, Mode.new, retOk, D.atom, D.atomL, D.flat, D.tru, D.node, D.items, D.isNon, gSet_ap, gsNil, gsCons, gTupE, gSeqE, bindN, putP, iSeq_ap, iRg_ap, iEnm_ap, rg1_ap, rg2_ap, eListRg_ap, oNone_ap, oSome_ap, eSlice_ap, pSlice, pTup_ap, pLst_ap, pI2, pNeg, pAdd, pMul, pEq_int, pEq_bl, pEq_str, pEq_nm, pEq_nil, pIsN, pIx, pLen, pAbs, pMin, pMax, pDivmod, pInt, pList, pTuple, pSumA, pAll, pAny, pIn_lst, pIn_tup, pIsi, D.tyn, isiB, flatD, keyD, Kind.S, wipeE, eDict0_ap, eDict1_ap, pGet, nm, atomL_app, atI_0, atI_1, atI_2, atI_3, nuE] using e2) (by simp [sizeLine_eq]; omega) (by simp [setM])
      refine ⟨ss, p', nuE p' n ps r 0 none none, m1, m3, by omega, rfl, ?_⟩
      simp [nm, nuE] at f4
      simp [sl_eq, callD_ap, startE, sSeq_ap, sIf_ap, sSet_ap, sRet_ap, sRetN_ap, sDrop_ap, sAsg_ap, sPar2_ap, sFor_ap, sNext_ap, sSetIt_ap, sPairSet_ap, gSetIt_ap, eVar_ap, eC_ap, ePrim_ap, lCons_ap, lNil_ap, lRef_ap, eOwn_ap, eCall_ap, ioW, setIO, setD, ioOut, ioGet, toT_ap, toTr_ap, tfAnd_ap, tfOr_ap, tfNot_ap, tYesF_ap, eIf_ap, eAnd_ap, eOr_ap, eNot_ap, eMut_ap, pName_ap, pSub1_ap, hasP, hasT, tyD, storL, storable, getP, setP, opApp, opIns, opPop, opClear, opExt, opSet, putE, putV, freeze, frz1, newAll, allNew, Mode.frz, Mode.w, Mode.new, retOk, D.atom, D.atomL, D.flat, D.tru, D.node, D.items, D.isNon, gSet_ap, gsNil, gsCons, gTupE, gSeqE, bindN, putP, iSeq_ap, iRg_ap, iEnm_ap, rg1_ap, rg2_ap, eListRg_ap, oNone_ap, oSome_ap, eSlice_ap, pSlice, pTup_ap, pLst_ap, pI2, pNeg, pAdd, pMul, pEq_int, pEq_bl, pEq_str, pEq_nm, pEq_nil, pIsN, pIx, pLen, pAbs, pMin, pMax, pDivmod, pInt, pList, pTuple, pSumA, pAll, pAny, pIn_lst, pIn_tup, pIsi, D.tyn, isiB, flatD, keyD, Kind.S, wipeE, eDict0_ap, eDict1_ap, pGet, nm, atomL_app, atI_0, atI_1, atI_2, atI_3, nuE, lsD, f4, atomL_nm]
    · have g3 : sIf (toT (ePrim (pEq false) (lCons (eVar 3) (lCons (eC (.int 0)) lNil)))) (sRet true (.top []) (eLc .own (iRg (rg1 (eVar 4))) (fun b => (gSet (.pr b) 7)) d_law_numbers_2 d_law_numbers_1 [7] [0])) sNext (nuE p1 n ps r w none none) = some (.nx (nuE p1 n ps r w none none)) := by
        simp [sl_eq, callD_ap, startE, sSeq_ap, sIf_ap, sSet_ap, sRet_ap, sRetN_ap, sDrop_ap, sAsg_ap, sPar2_ap, sFor_ap, sNext_ap, sSetIt_ap, sPairSet_ap, gSetIt_ap, eVar_ap, eC_ap, ePrim_ap, lCons_ap, lNil_ap, lRef_ap, eOwn_ap, eCall_ap, ioW, setIO, setD, ioOut, ioGet, toT_ap, toTr_ap, tfAnd_ap, tfOr_ap, tfNot_ap, tYesF_ap, eIf_ap, eAnd_ap, eOr_ap, eNot_ap, eMut_ap, pName_ap, pSub1_ap, hasP, hasT, tyD, storL, storable, getP, setP, opApp, opIns, opPop, opClear, opExt, opSet, putE, putV, freeze, frz1, newAll, allNew, Mode.frz, Mode.w, Mode.new, retOk, D.atom, D.atomL, D.flat, D.tru, D.node, D.items, D.isNon, gSet_ap, gsNil, gsCons, gTupE, gSeqE, bindN, putP, iSeq_ap, iRg_ap, iEnm_ap, rg1_ap, rg2_ap, eListRg_ap, oNone_ap, oSome_ap, eSlice_ap, pSlice, pTup_ap, pLst_ap, pI2, pNeg, pAdd, pMul, pEq_int, pEq_bl, pEq_str, pEq_nm, pEq_nil, pIsN, pIx, pLen, pAbs, pMin, pMax, pDivmod, pInt, pList, pTuple, pSumA, pAll, pAny, pIn_lst, pIn_tup, pIsi, D.tyn, isiB, flatD, keyD, Kind.S, wipeE, eDict0_ap, eDict1_ap, pGet, nm, atomL_app, atI_0, atI_1, atI_2, atI_3, hw0]
      rw [sSeq_ap, g3]
      dsimp only
      obtain ⟨T, p2, hp2, t1, t2, e2⟩ := grown_ok (n := n) (r := r) (ps := ps) hp1 h2 hpl
      have g4 : sSet 5 .own (eCall f_law_grown [0] (lCons (eVar 0) (lCons (eVar 1) (lCons (eVar 2) lNil)))) (nuE p1 n ps r w none none) = some (.nx (nuE p2 n ps r w (some (.own, lsD T)) none)) := by
        simp [nm] at e2
        simp [sl_eq, callD_ap, startE, sSeq_ap, sIf_ap, sSet_ap, sRet_ap, sRetN_ap, sDrop_ap, sAsg_ap, sPar2_ap, sFor_ap, sNext_ap, sSetIt_ap, sPairSet_ap, gSetIt_ap, eVar_ap, eC_ap, ePrim_ap, lCons_ap, lNil_ap, lRef_ap, eOwn_ap, eCall_ap, ioW, setIO, setD, ioOut, ioGet, toT_ap, toTr_ap, tfAnd_ap, tfOr_ap, tfNot_ap, tYesF_ap, eIf_ap, eAnd_ap, eOr_ap, eNot_ap, eMut_ap, pName_ap, pSub1_ap, hasP, hasT, tyD, storL, storable, getP, setP, opApp, opIns, opPop, opClear, opExt, opSet, putE, putV, freeze, frz1, newAll, allNew, Mode.frz, Mode.w, Mode.new, retOk, D.atom, D.atomL, D.flat, D.tru, D.node, D.items, D.isNon, gSet_ap, gsNil, gsCons, gTupE, gSeqE, bindN, putP, iSeq_ap, iRg_ap, iEnm_ap, rg1_ap, rg2_ap, eListRg_ap, oNone_ap, oSome_ap, eSlice_ap, pSlice, pTup_ap, pLst_ap, pI2, pNeg, pAdd, pMul, pEq_int, pEq_bl, pEq_str, pEq_nm, pEq_nil, pIsN, pIx, pLen, pAbs, pMin, pMax, pDivmod, pInt, pList, pTuple, pSumA, pAll, pAny, pIn_lst, pIn_tup, pIsi, D.tyn, isiB, flatD, keyD, Kind.S, wipeE, eDict0_ap, eDict1_ap, pGet, nm, atomL_app, atI_0, atI_1, atI_2, atI_3, e2]
      rw [sSeq_ap, g4]
      dsimp only
      by_cases hz : w < 3 ∨ ps.length = 0
      · refine ⟨T, p2, nuE p2 n ps r w (some (.own, lsD T)) none, hp2, t1, by omega, rfl, ?_⟩
        have g5 : tfOr (toT (ePrim pLt (lCons (eVar 3) (lCons (eC (.int 3)) lNil)))) (toT (ePrim (pEq false) (lCons (eVar 4) (lCons (eC (.int 0)) lNil)))) (nuE p2 n ps r w (some (.own, lsD T)) none) = some (true, nuE p2 n ps r w (some (.own, lsD T)) none) := by
          by_cases z1 : w < 3
          · have z1' : (w : Int) < 3 := by omega
            simp [sl_eq, callD_ap, startE, sSeq_ap, sIf_ap, sSet_ap, sRet_ap, sRetN_ap, sDrop_ap, sAsg_ap, sPar2_ap, sFor_ap, sNext_ap, sSetIt_ap, sPairSet_ap, gSetIt_ap, eVar_ap, eC_ap, ePrim_ap, lCons_ap, lNil_ap, lRef_ap, eOwn_ap, eCall_ap, ioW, setIO, setD, ioOut, ioGet, toT_ap, toTr_ap, tfAnd_ap, tfOr_ap, tfNot_ap, tYesF_ap, eIf_ap, eAnd_ap, eOr_ap, eNot_ap, eMut_ap, pName_ap, pSub1_ap, hasP, hasT, tyD, storL, storable, getP, setP, opApp, opIns, opPop, opClear, opExt, opSet, putE, putV, freeze, frz1, newAll, allNew, Mode.frz, Mode.w, Mode.new, retOk, D.atom, D.atomL, D.flat, D.tru, D.node, D.items, D.isNon, gSet_ap, gsNil, gsCons, gTupE, gSeqE, bindN, putP, iSeq_ap, iRg_ap, iEnm_ap, rg1_ap, rg2_ap, eListRg_ap, oNone_ap, oSome_ap, eSlice_ap, pSlice, pTup_ap, pLst_ap, pI2, pNeg, pAdd, pMul, pEq_int, pEq_bl, pEq_str, pEq_nm, pEq_nil, pIsN, pIx, pLen, pAbs, pMin, pMax, pDivmod, pInt, pList, pTuple, pSumA, pAll, pAny, pIn_lst, pIn_tup, pIsi, D.tyn, isiB, flatD, keyD, Kind.S, wipeE, eDict0_ap, eDict1_ap, pGet, nm, atomL_app, atI_0, atI_1, atI_2, atI_3, z1']
          · have z1' : ¬ (w : Int) < 3 := by omega
            have z2 : ps.length = 0 := hz.resolve_left z1
            have z3 : ps = [] := List.length_eq_zero_iff.mp z2
            simp [sl_eq, callD_ap, startE, sSeq_ap, sIf_ap, sSet_ap, sRet_ap, sRetN_ap, sDrop_ap, sAsg_ap, sPar2_ap, sFor_ap, sNext_ap, sSetIt_ap, sPairSet_ap, gSetIt_ap, eVar_ap, eC_ap, ePrim_ap, lCons_ap, lNil_ap, lRef_ap, eOwn_ap, eCall_ap, ioW, setIO, setD, ioOut, ioGet, toT_ap, toTr_ap, tfAnd_ap, tfOr_ap, tfNot_ap, tYesF_ap, eIf_ap, eAnd_ap, eOr_ap, eNot_ap, eMut_ap, pName_ap, pSub1_ap, hasP, hasT, tyD, storL, storable, getP, setP, opApp, opIns, opPop, opClear, opExt, opSet, putE, putV, freeze, frz1, newAll, allNew, Mode.frz, Mode.w, Mode.new, retOk, D.atom, D.atomL, D.flat, D.tru, D.node, D.items, D.isNon, gSet_ap, gsNil, gsCons, gTupE, gSeqE, bindN, putP, iSeq_ap, iRg_ap, iEnm_ap, rg1_ap, rg2_ap, eListRg_ap, oNone_ap, oSome_ap, eSlice_ap, pSlice, pTup_ap, pLst_ap, pI2, pNeg, pAdd, pMul, pEq_int, pEq_bl, pEq_str, pEq_nm, pEq_nil, pIsN, pIx, pLen, pAbs, pMin, pMax, pDivmod, pInt, pList, pTuple, pSumA, pAll, pAny, pIn_lst, pIn_tup, pIsi, D.tyn, isiB, flatD, keyD, Kind.S, wipeE, eDict0_ap, eDict1_ap, pGet, nm, atomL_app, atI_0, atI_1, atI_2, atI_3, z1', z3]
        rw [sSeq_ap, sIf_ap, g5]
        dsimp only
        simp [sl_eq, callD_ap, startE, sSeq_ap, sIf_ap, sSet_ap, sRet_ap, sRetN_ap, sDrop_ap, sAsg_ap, sPar2_ap, sFor_ap, sNext_ap, sSetIt_ap, sPairSet_ap, gSetIt_ap, eVar_ap, eC_ap, ePrim_ap, lCons_ap, lNil_ap, lRef_ap, eOwn_ap, eCall_ap, ioW, setIO, setD, ioOut, ioGet, toT_ap, toTr_ap, tfAnd_ap, tfOr_ap, tfNot_ap, tYesF_ap, eIf_ap, eAnd_ap, eOr_ap, eNot_ap, eMut_ap, pName_ap, pSub1_ap, hasP, hasT, tyD, storL, storable, getP, setP, opApp, opIns, opPop, opClear, opExt, opSet, putE, putV, freeze, frz1, newAll, allNew, Mode.frz, Mode.w, Mode.new, retOk, D.atom, D.atomL, D.flat, D.tru, D.node, D.items, D.isNon, gSet_ap, gsNil, gsCons, gTupE, gSeqE, bindN, putP, iSeq_ap, iRg_ap, iEnm_ap, rg1_ap, rg2_ap, eListRg_ap, oNone_ap, oSome_ap, eSlice_ap, pSlice, pTup_ap, pLst_ap, pI2, pNeg, pAdd, pMul, pEq_int, pEq_bl, pEq_str, pEq_nm, pEq_nil, pIsN, pIx, pLen, pAbs, pMin, pMax, pDivmod, pInt, pList, pTuple, pSumA, pAll, pAny, pIn_lst, pIn_tup, pIsi, D.tyn, isiB, flatD, keyD, Kind.S, wipeE, eDict0_ap, eDict1_ap, pGet, nm, atomL_app, atI_0, atI_1, atI_2, atI_3, lsD]
      · have z1 : ¬ (w : Int) < 3 := by omega
        have z2 : ¬ ps.length = 0 := by omega
        have z2' : ¬ ps = [] := fun z => z2 (by rw [z]; rfl)
        have g5 : sIf (tfOr (toT (ePrim pLt (lCons (eVar 3) (lCons (eC (.int 3)) lNil)))) (toT (ePrim (pEq false) (lCons (eVar 4) (lCons (eC (.int 0)) lNil))))) (sRet true (.sub 5) (eVar 5)) sNext (nuE p2 n ps r w (some (.own, lsD T)) none) = some (.nx (nuE p2 n ps r w (some (.own, lsD T)) none)) := by
          simp [sl_eq, callD_ap, startE, sSeq_ap, sIf_ap, sSet_ap, sRet_ap, sRetN_ap, sDrop_ap, sAsg_ap, sPar2_ap, sFor_ap, sNext_ap, sSetIt_ap, sPairSet_ap, gSetIt_ap, eVar_ap, eC_ap, ePrim_ap, lCons_ap, lNil_ap, lRef_ap, eOwn_ap, eCall_ap, ioW, setIO, setD, ioOut, ioGet, toT_ap, toTr_ap, tfAnd_ap, tfOr_ap, tfNot_ap, tYesF_ap, eIf_ap, eAnd_ap, eOr_ap, eNot_ap, eMut_ap, pName_ap, pSub1_ap, hasP, hasT, tyD, storL, storable, getP, setP, opApp, opIns, opPop, opClear, opExt, opSet, putE, putV, freeze, frz1, newAll, allNew, Mode.frz, Mode.w, Mode.new, retOk, D.atom, D.atomL, D.flat, D.tru, D.node, D.items, D.isNon, gSet_ap, gsNil, gsCons, gTupE, gSeqE, bindN, putP, iSeq_ap, iRg_ap, iEnm_ap, rg1_ap, rg2_ap, eListRg_ap, oNone_ap, oSome_ap, eSlice_ap, pSlice, pTup_ap, pLst_ap, pI2, pNeg, pAdd, pMul, pEq_int, pEq_bl, pEq_str, pEq_nm, pEq_nil, pIsN, pIx, pLen, pAbs, pMin, pMax, pDivmod, pInt, pList, pTuple, pSumA, pAll, pAny, pIn_lst, pIn_tup, pIsi, D.tyn, isiB, flatD, keyD, Kind.S, wipeE, eDict0_ap, eDict1_ap, pGet, nm, atomL_app, atI_0, atI_1, atI_2, atI_3, z1, z2, z2']
        rw [sSeq_ap, g5]
        dsimp only
        obtain ⟨ot, p3, hp3, ho, e3⟩ := take_ok hp2 (m := ps.length) (by omega) (by omega)
        have g6 : sSet 6 .own (eCall f_law_take [0] (lCons (eVar 0) (lCons (eVar 4) lNil))) (nuE p2 n ps r w (some (.own, lsD T)) none) = some (.nx (nuE p3 n ps r w (some (.own, lsD T)) (some (.own, nm ot)))) := by
          simp [sl_eq, callD_ap, startE, sSeq_ap, sIf_ap, sSet_ap, sRet_ap, sRetN_ap, sDrop_ap, sAsg_ap, sPar2_ap, sFor_ap, sNext_ap, sSetIt_ap, sPairSet_ap, gSetIt_ap, eVar_ap, eC_ap, ePrim_ap, lCons_ap, lNil_ap, lRef_ap, eOwn_ap, eCall_ap, ioW, setIO, setD, ioOut, ioGet, toT_ap, toTr_ap, tfAnd_ap, tfOr_ap, tfNot_ap, tYesF_ap, eIf_ap, eAnd_ap, eOr_ap, eNot_ap, eMut_ap, pName_ap, pSub1_ap, hasP, hasT, tyD, storL, storable, getP, setP, opApp, opIns, opPop, opClear, opExt, opSet, putE, putV, freeze, frz1, newAll, allNew, Mode.frz, Mode.w, Mode.new, retOk, D.atom, D.atomL, D.flat, D.tru, D.node, D.items, D.isNon, gSet_ap, gsNil, gsCons, gTupE, gSeqE, bindN, putP, iSeq_ap, iRg_ap, iEnm_ap, rg1_ap, rg2_ap, eListRg_ap, oNone_ap, oSome_ap, eSlice_ap, pSlice, pTup_ap, pLst_ap, pI2, pNeg, pAdd, pMul, pEq_int, pEq_bl, pEq_str, pEq_nm, pEq_nil, pIsN, pIx, pLen, pAbs, pMin, pMax, pDivmod, pInt, pList, pTuple, pSumA, pAll, pAny, pIn_lst, pIn_tup, pIsi, D.tyn, isiB, flatD, keyD, Kind.S, wipeE, eDict0_ap, eDict1_ap, pGet, nm, atomL_app, atI_0, atI_1, atI_2, atI_3, e3]
        rw [sSeq_ap, g6]
        dsimp only
        obtain ⟨T2, p4, hp4, u1, u2, g7⟩ : ∃ T2 p4, PotD p4 ∧ (∀ k ∈ T2, k < ps.length) ∧ T2.length ≤ 9 ∧ sIf (tfAnd (toT (ePrim (pEq true) (lCons (eVar 3) (lCons (eC (.int 3)) lNil)))) (toT (ePrim (pEq true) (lCons (eVar 5) (lCons (ePrim pLst lNil) lNil))))) (sDrop (eMut "list" 5 (pName 5) [.own] (lCons (eCall f_law_take [0] (lCons (eVar 0) (lCons (ePrim pLen (lCons (eVar 5) lNil)) lNil))) lNil) opPop)) sNext (nuE p3 n ps r w (some (.own, lsD T)) (some (.own, nm ot))) = some (.nx (nuE p4 n ps r w (some (.own, lsD T2)) (some (.own, nm ot)))) := by
          by_cases w3 : w = 3
          · subst w3
            exact ⟨T, p3, hp3, t1, t2, by simp [sl_eq, callD_ap, startE, sSeq_ap, sIf_ap, sSet_ap, sRet_ap, sRetN_ap, sDrop_ap, sAsg_ap, sPar2_ap, sFor_ap, sNext_ap, sSetIt_ap, sPairSet_ap, gSetIt_ap, eVar_ap, eC_ap, ePrim_ap, lCons_ap, lNil_ap, lRef_ap, eOwn_ap, eCall_ap, ioW, setIO, setD, ioOut, ioGet, toT_ap, toTr_ap, tfAnd_ap, tfOr_ap, tfNot_ap, tYesF_ap, eIf_ap, eAnd_ap, eOr_ap, eNot_ap, eMut_ap, pName_ap, pSub1_ap, hasP, hasT, tyD, storL, storable, getP, setP, opApp, opIns, opPop, opClear, opExt, opSet, putE, putV, freeze, frz1, newAll, allNew, Mode.frz, Mode.w, Mode.new, retOk, D.atom, D.atomL, D.flat, D.tru, D.node, D.items, D.isNon, gSet_ap, gsNil, gsCons, gTupE, gSeqE, bindN, putP, iSeq_ap, iRg_ap, iEnm_ap, rg1_ap, rg2_ap, eListRg_ap, oNone_ap, oSome_ap, eSlice_ap, pSlice, pTup_ap, pLst_ap, pI2, pNeg, pAdd, pMul, pEq_int, pEq_bl, pEq_str, pEq_nm, pEq_nil, pIsN, pIx, pLen, pAbs, pMin, pMax, pDivmod, pInt, pList, pTuple, pSumA, pAll, pAny, pIn_lst, pIn_tup, pIsi, D.tyn, isiB, flatD, keyD, Kind.S, wipeE, eDict0_ap, eDict1_ap, pGet, nm, atomL_app, atI_0, atI_1, atI_2, atI_3]⟩
          · have w3' : ¬ (w : Int) = 3 := by omega
            by_cases tz : T = []
            · subst tz
              have p2 : pEq true [.lst [], .lst []] = some (.bl false) := pEq_nm true [] []
              exact ⟨[], p3, hp3, by simp, by simp, by simp [sl_eq, callD_ap, startE, sSeq_ap, sIf_ap, sSet_ap, sRet_ap, sRetN_ap, sDrop_ap, sAsg_ap, sPar2_ap, sFor_ap, sNext_ap, sSetIt_ap, sPairSet_ap, gSetIt_ap, eVar_ap, eC_ap, ePrim_ap, lCons_ap, lNil_ap, lRef_ap, eOwn_ap, eCall_ap, ioW, setIO, setD, ioOut, ioGet, toT_ap, toTr_ap, tfAnd_ap, tfOr_ap, tfNot_ap, tYesF_ap, eIf_ap, eAnd_ap, eOr_ap, eNot_ap, eMut_ap, pName_ap, pSub1_ap, hasP, hasT, tyD, storL, storable, getP, setP, opApp, opIns, opPop, opClear, opExt, opSet, putE, putV, freeze, frz1, newAll, allNew, Mode.frz, Mode.w, Mode.new, retOk, D.atom, D.atomL, D.flat, D.tru, D.node, D.items, D.isNon, gSet_ap, gsNil, gsCons, gTupE, gSeqE, bindN, putP, iSeq_ap, iRg_ap, iEnm_ap, rg1_ap, rg2_ap, eListRg_ap, oNone_ap, oSome_ap, eSlice_ap, pSlice, pTup_ap, pLst_ap, pI2, pNeg, pAdd, pMul, pEq_int, pEq_bl, pEq_str, pEq_nm, pEq_nil, pIsN, pIx, pLen, pAbs, pMin, pMax, pDivmod, pInt, pList, pTuple, pSumA, pAll, pAny, pIn_lst, pIn_tup, pIsi, D.tyn, isiB, flatD, keyD, Kind.S, wipeE, eDict0_ap, eDict1_ap, pGet, nm, atomL_app, atI_0, atI_1, atI_2, atI_3, w3', p2, sizeLine_eq]⟩
            · have hT0 : 0 < T.length := List.length_pos_iff.mpr tz
              obtain ⟨y, p4, hp4, hy, e4⟩ := take_ok hp3 (m := T.length) (by omega) (by omega)
              have hy' : y < T.length := by omega
              have q1 := seqIx_nat hy'
              have q2 : -9223372036854775808 ≤ (y : Int) ∧ (y : Int) < 9223372036854775808 := by omega
              refine ⟨T.eraseIdx y, p4, hp4, fun k hk => t1 k (List.mem_of_mem_eraseIdx hk), ?_, ?_⟩
              · have := List.length_eraseIdx_le T y
                omega
              · simp [sl_eq, callD_ap, startE, sSeq_ap, sIf_ap, sSet_ap, sRet_ap, sRetN_ap, sDrop_ap, sAsg_ap, sPar2_ap, sFor_ap, sNext_ap, sSetIt_ap, sPairSet_ap, gSetIt_ap, eVar_ap, eC_ap, ePrim_ap, lCons_ap, lNil_ap, lRef_ap, eOwn_ap, eCall_ap, ioW, setIO, setD, ioOut, ioGet, toT_ap, toTr_ap, tfAnd_ap, tfOr_ap, tfNot_ap, tYesF_ap, eIf_ap, eAnd_ap, eOr_ap, eNot_ap, eMut_ap, pName_ap, pSub1_ap, hasP, hasT, tyD, storL, storable, getP, setP, opApp, opIns, opPop, opClear, opExt, opSet, putE, putV, freeze, frz1, newAll, allNew, Mode.frz, Mode.w, Mode.new, retOk, D.atom, D.atomL, D.flat, D.tru, D.node, D.items, D.isNon, gSet_ap, gsNil, gsCons, gTupE, gSeqE, bindN, putP, iSeq_ap, iRg_ap, iEnm_ap, rg1_ap, rg2_ap, eListRg_ap, oNone_ap, oSome_ap, eSlice_ap, pSlice, pTup_ap, pLst_ap, pI2, pNeg, pAdd, pMul, pEq_int, pEq_bl, pEq_str, pEq_nm, pEq_nil, pIsN, pIx, pLen, pAbs, pMin, pMax, pDivmod, pInt, pList, pTuple, pSumA, pAll, pAny, pIn_lst, pIn_tup, pIsi, D.tyn, isiB, flatD, keyD, Kind.S, wipeE, eDict0_ap, eDict1_ap, pGet, nm, atomL_app, atI_0, atI_1, atI_2, atI_3, lsD, w3', tz, e4, q1, q2, hy', map_erase, sizeLine_eq]
        rw [sSeq_ap, g7]
        dsimp only
        obtain ⟨T3, v1, v2, g8⟩ : ∃ T3, (∀ k ∈ T3, k < ps.length) ∧ T3.length ≤ 10 ∧ sIf (tfAnd (toT (ePrim (pEq true) (lCons (eVar 3) (lCons (eC (.int 4)) lNil)))) (toT (ePrim (pIn true) (lCons (eVar 6) (lCons (eVar 5) lNil))))) (sDrop (eMut "list" 5 (pName 5) [(.sub 6)] (lCons (eVar 6) lNil) opApp)) sNext (nuE p4 n ps r w (some (.own, lsD T2)) (some (.own, nm ot))) = some (.nx (nuE p4 n ps r w (some (.own, lsD T3)) (some (.own, nm ot)))) := by
          have p1 := pIn_lst true ot T2
          by_cases w4 : w = 4
          · subst w4
            exact ⟨T2, u1, by omega, by simp [sl_eq, callD_ap, startE, sSeq_ap, sIf_ap, sSet_ap, sRet_ap, sRetN_ap, sDrop_ap, sAsg_ap, sPar2_ap, sFor_ap, sNext_ap, sSetIt_ap, sPairSet_ap, gSetIt_ap, eVar_ap, eC_ap, ePrim_ap, lCons_ap, lNil_ap, lRef_ap, eOwn_ap, eCall_ap, ioW, setIO, setD, ioOut, ioGet, toT_ap, toTr_ap, tfAnd_ap, tfOr_ap, tfNot_ap, tYesF_ap, eIf_ap, eAnd_ap, eOr_ap, eNot_ap, eMut_ap, pName_ap, pSub1_ap, hasP, hasT, tyD, storL, storable, getP, setP, opApp, opIns, opPop, opClear, opExt, opSet, putE, putV, freeze, frz1, newAll, allNew, Mode.frz, Mode.w, Mode.new, retOk, D.atom, D.atomL, D.flat, D.tru, D.node, D.items, D.isNon, gSet_ap, gsNil, gsCons, gTupE, gSeqE, bindN, putP, iSeq_ap, iRg_ap, iEnm_ap, rg1_ap, rg2_ap, eListRg_ap, oNone_ap, oSome_ap, eSlice_ap, pSlice, pTup_ap, pLst_ap, pI2, pNeg, pAdd, pMul, pEq_int, pEq_bl, pEq_str, pEq_nm, pEq_nil, pIsN, pIx, pLen, pAbs, pMin, pMax, pDivmod, pInt, pList, pTuple, pSumA, pAll, pAny, pIn_lst, pIn_tup, pIsi, D.tyn, isiB, flatD, keyD, Kind.S, wipeE, eDict0_ap, eDict1_ap, pGet, nm, atomL_app, atI_0, atI_1, atI_2, atI_3]⟩
          · have w4' : ¬ (w : Int) = 4 := by omega
            by_cases oz : ot ∈ T2
            · simp only [decide_eq_true oz] at p1
              exact ⟨T2, u1, by omega, by simp [sl_eq, callD_ap, startE, sSeq_ap, sIf_ap, sSet_ap, sRet_ap, sRetN_ap, sDrop_ap, sAsg_ap, sPar2_ap, sFor_ap, sNext_ap, sSetIt_ap, sPairSet_ap, gSetIt_ap, eVar_ap, eC_ap, ePrim_ap, lCons_ap, lNil_ap, lRef_ap, eOwn_ap, eCall_ap, ioW, setIO, setD, ioOut, ioGet, toT_ap, toTr_ap, tfAnd_ap, tfOr_ap, tfNot_ap, tYesF_ap, eIf_ap, eAnd_ap, eOr_ap, eNot_ap, eMut_ap, pName_ap, pSub1_ap, hasP, hasT, tyD, storL, storable, getP, setP, opApp, opIns, opPop, opClear, opExt, opSet, putE, putV, freeze, frz1, newAll, allNew, Mode.frz, Mode.w, Mode.new, retOk, D.atom, D.atomL, D.flat, D.tru, D.node, D.items, D.isNon, gSet_ap, gsNil, gsCons, gTupE, gSeqE, bindN, putP, iSeq_ap, iRg_ap, iEnm_ap, rg1_ap, rg2_ap, eListRg_ap, oNone_ap, oSome_ap, eSlice_ap, pSlice, pTup_ap, pLst_ap, pI2, pNeg, pAdd, pMul, pEq_int, pEq_bl, pEq_str, pEq_nm, pEq_nil, pIsN, pIx, pLen, pAbs, pMin, pMax, pDivmod, pInt, pList, pTuple, pSumA, pAll, pAny, pIn_lst, pIn_tup, pIsi, D.tyn, isiB, flatD, keyD, Kind.S, wipeE, eDict0_ap, eDict1_ap, pGet, nm, atomL_app, atI_0, atI_1, atI_2, atI_3, lsD, w4', p1, oz]⟩
            · simp only [decide_eq_false oz] at p1
              have f1 : T2.length < 16777216 := by omega
              refine ⟨T2 ++ [ot], fun k hk => ?_, by simp; omega, by simp [sl_eq, callD_ap, startE, sSeq_ap, sIf_ap, sSet_ap, sRet_ap, sRetN_ap, sDrop_ap, sAsg_ap, sPar2_ap, sFor_ap, sNext_ap, sSetIt_ap, sPairSet_ap, gSetIt_ap, eVar_ap, eC_ap, ePrim_ap, lCons_ap, lNil_ap, lRef_ap, eOwn_ap, eCall_ap, ioW, setIO, setD, ioOut, ioGet, toT_ap, toTr_ap, tfAnd_ap, tfOr_ap, tfNot_ap, tYesF_ap, eIf_ap, eAnd_ap, eOr_ap, eNot_ap, eMut_ap, pName_ap, pSub1_ap, hasP, hasT, tyD, storL, storable, getP, setP, opApp, opIns, opPop, opClear, opExt, opSet, putE, putV, freeze, frz1, newAll, allNew, Mode.frz, Mode.w, Mode.new, retOk, D.atom, D.atomL, D.flat, D.tru, D.node, D.items, D.isNon, gSet_ap, gsNil, gsCons, gTupE, gSeqE, bindN, putP, iSeq_ap, iRg_ap, iEnm_ap, rg1_ap, rg2_ap, eListRg_ap, oNone_ap, oSome_ap, eSlice_ap, pSlice, pTup_ap, pLst_ap, pI2, pNeg, pAdd, pMul, pEq_int, pEq_bl, pEq_str, pEq_nm, pEq_nil, pIsN, pIx, pLen, pAbs, pMin, pMax, pDivmod, pInt, pList, pTuple, pSumA, pAll, pAny, pIn_lst, pIn_tup, pIsi, D.tyn, isiB, flatD, keyD, Kind.S, wipeE, eDict0_ap, eDict1_ap, pGet, nm, atomL_app, atI_0, atI_1, atI_2, atI_3, lsD, w4', p1, oz, f1, sizeLine_eq]⟩
              rcases List.mem_append.mp hk with hk | hk
              · exact u1 k hk
              · rw [List.mem_singleton.mp hk]
                omega
        rw [sSeq_ap, g8]
        dsimp only
        obtain ⟨N, s1, s2, s3⟩ := sortI_nm T3
        have f6 : T3.length < 64 := by omega
        have f7 : (N.map fun (k : Nat) => (k : Int)).map D.int = N.map nm := by rw [List.map_map]; rfl
        refine ⟨N, p4, nuE p4 n ps r w (some (.own, lsD T3)) (some (.own, nm ot)), hp4, fun k hk => v1 k (s2 k hk), by omega, rfl, ?_⟩
        simp [sl_eq, callD_ap, startE, sSeq_ap, sIf_ap, sSet_ap, sRet_ap, sRetN_ap, sDrop_ap, sAsg_ap, sPar2_ap, sFor_ap, sNext_ap, sSetIt_ap, sPairSet_ap, gSetIt_ap, eVar_ap, eC_ap, ePrim_ap, lCons_ap, lNil_ap, lRef_ap, eOwn_ap, eCall_ap, ioW, setIO, setD, ioOut, ioGet, toT_ap, toTr_ap, tfAnd_ap, tfOr_ap, tfNot_ap, tYesF_ap, eIf_ap, eAnd_ap, eOr_ap, eNot_ap, eMut_ap, pName_ap, pSub1_ap, hasP, hasT, tyD, storL, storable, getP, setP, opApp, opIns, opPop, opClear, opExt, opSet, putE, putV, freeze, frz1, newAll, allNew, Mode.frz, Mode.w, Mode.new, retOk, D.atom, D.atomL, D.flat, D.tru, D.node, D.items, D.isNon, gSet_ap, gsNil, gsCons, gTupE, gSeqE, bindN, putP, iSeq_ap, iRg_ap, iEnm_ap, rg1_ap, rg2_ap, eListRg_ap, oNone_ap, oSome_ap, eSlice_ap, pSlice, pTup_ap, pLst_ap, pI2, pNeg, pAdd, pMul, pEq_int, pEq_bl, pEq_str, pEq_nm, pEq_nil, pIsN, pIx, pLen, pAbs, pMin, pMax, pDivmod, pInt, pList, pTuple, pSumA, pAll, pAny, pIn_lst, pIn_tup, pIsi, D.tyn, isiB, flatD, keyD, Kind.S, wipeE, eDict0_ap, eDict1_ap, pGet, nm, atomL_app, atI_0, atI_1, atI_2, atI_3, lsD, pSortedI, intsD_nm, s1, f6, f7]
  obtain ⟨N, p', E, h1, h3, h4, h5, e⟩ := main
  exact ⟨N, p', h1, h3, h4, by simp [f_law_numbers, callD_ap, startE, e, ioOut, h5]⟩
end
end VL
set_option maxHeartbeats 4000000
namespace VL
open PySem PySem.Spec PyProof.Rows L2
abbrev lwE (ns : List Int) (x1 x2 x3 x4 x5 x6 x7 x8 x9 x10 x11 : Option (Mode × D)) : Env := [some (.arg, .scr ns), x1, x2, x3, x4, x5, x6, x7, x8, x9, x10, x11]
structure Bef (n r : Nat) (ps : List (Nat × Nat)) (N : List Nat) : Prop where
  h2 : n ≤ 9
  hr : r < n
  hps : ∀ q ∈ ps, q.1 < n ∧ q.2 < n
  hN : ∀ k ∈ N, k < ps.length
  hl : N.length ≤ 60
def LawI (ns : List Int) (E : Env) : Prop := ∃ m n r ps N x2 x3 x4 x5 x6 x7 x8 x9 x10 x11, Bef n r ps N ∧ E = lwE ns (some (m, .tup [webD n ps, nm r, lsD N])) x2 x3 x4 x5 x6 x7 x8 x9 x10 x11
theorem three_ok {ns : List Int} {m : Mode} {n0 r0 n r o : Nat} {ps0 ps : List (Nat × Nat)} {N0 : List Nat} {c : Bool} {p : D} {x2 x5 x6 x10 x11 : Option (Mode × D)} (B0 : Bef n0 r0 ps0 N0) (hp : PotD p) (h2 : n ≤ 9) (hr : r < n) (ho : o < n) (hps : ∀ q ∈ ps, q.1 < n ∧ q.2 < n) (hpl : ps.length ≤ 60) :
    ∃ p' N x10', PotD p' ∧ (∀ k ∈ N, k < ps.length) ∧ N.length ≤ 60 ∧ forL (gSet (.pr true) 10) d_law_1 ((List.range 3).map nm) (lwE ns (some (m, .tup [webD n0 ps0, nm r0, lsD N0])) x2 (some (.own, p)) (some (.own, .bl c)) x5 x6 (some (.own, webD n ps)) (some (.own, nm r)) (some (.own, nm o)) x10 x11) =
      some (.nx (lwE ns (some (m, .tup [webD n0 ps0, nm r0, lsD N0])) x2 (some (.own, p')) (some (.own, .bl c)) x5 x6 (some (.own, webD n ps)) (some (.own, nm r)) (some (.own, nm o)) x10' (some (.own, lsD N)))) := by
  obtain ⟨E', e1, p', x10', x11', hp', h, rfl⟩ := forL_inv (g := gSet (.pr true) 10) (b := d_law_1) (ds := (List.range 3).map nm) (E := lwE ns (some (m, .tup [webD n0 ps0, nm r0, lsD N0])) x2 (some (.own, p)) (some (.own, .bl c)) x5 x6 (some (.own, webD n ps)) (some (.own, nm r)) (some (.own, nm o)) x10 x11)
    (fun i E => ∃ p' x10' x11', PotD p' ∧ (i = 0 ∨ ∃ N : List Nat, (∀ k ∈ N, k < ps.length) ∧ N.length ≤ 60 ∧ x11' = some (.own, lsD N)) ∧ E = lwE ns (some (m, .tup [webD n0 ps0, nm r0, lsD N0])) x2 (some (.own, p')) (some (.own, .bl c)) x5 x6 (some (.own, webD n ps)) (some (.own, nm r)) (some (.own, nm o)) x10' x11')
    ⟨p, x10, x11, hp, .inl rfl, rfl⟩ (by
      rintro i d E hd ⟨p', x10', x11', hp', _, rfl⟩
      obtain ⟨hi, rfl⟩ := rg_get hd
      obtain ⟨N, p1, hp1, n1, n2, e⟩ := numbers_ok (n := n) (r := r) (ps := ps) hp' h2 hpl
      have r1 := right_ok c h2 hr hps n1 n2
      have r2 := right_ok (!c) h2 ho hps n1 n2
      have r3 := right_ok c B0.h2 B0.hr B0.hps B0.hN B0.hl
      refine ⟨lwE ns (some (m, .tup [webD n0 ps0, nm r0, lsD N0])) x2 (some (.own, p')) (some (.own, .bl c)) x5 x6 (some (.own, webD n ps)) (some (.own, nm r)) (some (.own, nm o)) (some (.own, nm i)) x11', lwE ns (some (m, .tup [webD n0 ps0, nm r0, lsD N0])) x2 (some (.own, p1)) (some (.own, .bl c)) x5 x6 (some (.own, webD n ps)) (some (.own, nm r)) (some (.own, nm o)) (some (.own, nm i)) (some (.own, lsD N)), by simp [sl_eq, callD_ap, startE, sSeq_ap, sIf_ap, sSet_ap, sRet_ap, sRetN_ap, sDrop_ap, sAsg_ap, sPar2_ap, sFor_ap, sNext_ap, sSetIt_ap, sPairSet_ap, gSetIt_ap, eVar_ap, eC_ap, ePrim_ap, lCons_ap, lNil_ap, lRef_ap, eOwn_ap, eCall_ap, ioW, setIO, setD, ioOut, ioGet, toT_ap, toTr_ap, tfAnd_ap, tfOr_ap, tfNot_ap, tYesF_ap, eIf_ap, eAnd_ap, eOr_ap, eNot_ap, eMut_ap, pName_ap, pSub1_ap, hasP, hasT, tyD, storL, storable, getP, setP, opApp, opIns, opPop, opClear, opExt, opSet, putE, putV, freeze, frz1, newAll, allNew, Mode.frz, Mode.w, Mode.new, retOk, D.atom, D.atomL, D.flat, D.tru, D.node, D.items, D.isNon, gSet_ap, gsNil, gsCons, gTupE, gSeqE, bindN, putP, iSeq_ap, iRg_ap, iEnm_ap, rg1_ap, rg2_ap, eListRg_ap, oNone_ap, oSome_ap, eSlice_ap, pSlice, pTup_ap, pLst_ap, pI2, pNeg, pAdd, pMul, pEq_int, pEq_bl, pEq_str, pEq_nm, pEq_nil, pIsN, pIx, pLen, pAbs, pMin, pMax, pDivmod, pInt, pList, pTuple, pSumA, pAll, pAny, pIn_lst, pIn_tup, pIsi, D.tyn, isiB, flatD, keyD, Kind.S, wipeE, eDict0_ap, eDict1_ap, pGet, nm, atomL_app, atI_0, atI_1, atI_2, atI_3], ?_, p1, _, _, hp1, .inr ⟨N, n1, n2, rfl⟩, rfl⟩
      simp [nm, lsD] at e r1 r2 r3
      simp [d_law_1, sl_eq, callD_ap, startE, sSeq_ap, sIf_ap, sSet_ap, sRet_ap, sRetN_ap, sDrop_ap, sAsg_ap, sPar2_ap, sFor_ap, sNext_ap, sSetIt_ap, sPairSet_ap, gSetIt_ap, eVar_ap, eC_ap, ePrim_ap, lCons_ap, lNil_ap, lRef_ap, eOwn_ap, eCall_ap, ioW, setIO, setD, ioOut, ioGet, toT_ap, toTr_ap, tfAnd_ap, tfOr_ap, tfNot_ap, tYesF_ap, eIf_ap, eAnd_ap, eOr_ap, eNot_ap, eMut_ap, pName_ap, pSub1_ap, hasP, hasT, tyD, storL, storable, getP, setP, opApp, opIns, opPop, opClear, opExt, opSet, putE, putV, freeze, frz1, newAll, allNew, Mode.frz, Mode.w, Mode.new, retOk, D.atom, D.atomL, D.flat, D.tru, D.node, D.items, D.isNon, gSet_ap, gsNil, gsCons, gTupE, gSeqE, bindN, putP, iSeq_ap, iRg_ap, iEnm_ap, rg1_ap, rg2_ap, eListRg_ap, oNone_ap, oSome_ap, eSlice_ap, pSlice, pTup_ap, pLst_ap, pI2, pNeg, pAdd, pMul, pEq_int, pEq_bl, pEq_str, pEq_nm, pEq_nil, pIsN, pIx, pLen, pAbs, pMin, pMax, pDivmod, pInt, pList, pTuple, pSumA, pAll, pAny, pIn_lst, pIn_tup, pIsi, D.tyn, isiB, flatD, keyD, Kind.S, wipeE, eDict0_ap, eDict1_ap, pGet, nm, atomL_app, atI_0, atI_1, atI_2, atI_3, lsD, e, r1, r2, r3])
  simp at h
  obtain ⟨N, n1, n2, rfl⟩ := h
  exact ⟨p', N, x10', hp', n1, n2, e1⟩
theorem body_ok {ns : List Int} {cell : Int} {m : Mode} {n0 r0 : Nat} {ps0 : List (Nat × Nat)} {N0 : List Nat} {x3 x4 x5 x6 x7 x8 x9 x10 x11 : Option (Mode × D)} (B0 : Bef n0 r0 ps0 N0) :
    ∃ E', d_law_2 (lwE ns (some (m, .tup [webD n0 ps0, nm r0, lsD N0])) (some (.own, .int cell)) x3 x4 x5 x6 x7 x8 x9 x10 x11) = some (.nx E') ∧ LawI ns E' := by
  obtain ⟨p, hp, e1⟩ := pot_ok cell
  obtain ⟨t, p1, hp1, ht, e2⟩ := take_ok hp (m := 2) (by omega) (by omega)
  obtain ⟨n, qs, p2, hp2, n1, n2, hl, hb, e3⟩ := web_ok hp1
  obtain ⟨r, p3, hp3, hr, e4⟩ := take_ok hp2 (m := n) (by omega) (by omega)
  obtain ⟨o, p4, hp4, ho, e5⟩ := take_ok hp3 (m := n) (by omega) (by omega)
  obtain ⟨p5, N, x10', hp5, k1, k2, e6⟩ := three_ok (ns := ns) (m := m) (c := decide ((t : Int) = 1)) (o := o) (x2 := some (.own, .int cell)) (x5 := some (.own, nm n)) (x6 := some (.own, .lst (qs.map ln))) (x10 := x10) (x11 := x11) B0 hp4 n2 (by omega : r < n) (by omega) hb hl
  refine ⟨lwE ns (some (.shr, .tup [webD n qs, nm r, lsD N])) (some (.own, .int cell)) (some (.own, p5)) (some (.own, .bl (decide ((t : Int) = 1)))) (some (.own, nm n)) (some (.own, .lst (qs.map ln))) (some (.shr, webD n qs)) (some (.shr, nm r)) (some (.own, nm o)) x10' (some (.shr, lsD N)), ?_, .shr, n, r, qs, N, _, _, _, _, _, _, _, _, _, _, ⟨n2, by omega, hb, k1, k2⟩, rfl⟩
  have f2 : (rgI 0 3).map D.int = (List.range 3).map nm := rg_nat 3
  have f3 : rgOk 0 3 = true := rgOk_nat (n := 3) (by omega)
  generalize hcb : decide ((t : Int) = 1) = cb at *
  simp [lwE, nm, lsD] at e3 e6 f2
  simp [d_law_2, sl_eq, callD_ap, startE, sSeq_ap, sIf_ap, sSet_ap, sRet_ap, sRetN_ap, sDrop_ap, sAsg_ap, sPar2_ap, sFor_ap, sNext_ap, sSetIt_ap, sPairSet_ap, gSetIt_ap, eVar_ap, eC_ap, ePrim_ap, lCons_ap, lNil_ap, lRef_ap, eOwn_ap, eCall_ap, ioW, setIO, setD, ioOut, ioGet, toT_ap, toTr_ap, tfAnd_ap, tfOr_ap, tfNot_ap, tYesF_ap, eIf_ap, eAnd_ap, eOr_ap, eNot_ap, eMut_ap, pName_ap, pSub1_ap, hasP, hasT, tyD, storL, storable, getP, setP, opApp, opIns, opPop, opClear, opExt, opSet, putE, putV, freeze, frz1, newAll, allNew, Mode.frz, Mode.w, Mode.new, retOk, D.atom, D.atomL, D.flat, D.tru, D.node, D.items, D.isNon, gSet_ap, gsNil, gsCons, gTupE, gSeqE, bindN, putP, iSeq_ap, iRg_ap, iEnm_ap, rg1_ap, rg2_ap, eListRg_ap, oNone_ap, oSome_ap, eSlice_ap, pSlice, pTup_ap, pLst_ap, pI2, pNeg, pAdd, pMul, pEq_int, pEq_bl, pEq_str, pEq_nm, pEq_nil, pIsN, pIx, pLen, pAbs, pMin, pMax, pDivmod, pInt, pList, pTuple, pSumA, pAll, pAny, pIn_lst, pIn_tup, pIsi, D.tyn, isiB, flatD, keyD, Kind.S, wipeE, eDict0_ap, eDict1_ap, pGet, nm, atomL_app, atI_0, atI_1, atI_2, atI_3, lsD, e1, e2, hcb, e3, e4, e5, f2, f3, e6, sizeLine_eq, atomL_ln]
theorem law_true (ns : List Int) (hl : ns.length ≤ 63) : f_law [.scr ns] = some (.bl true, []) := by
  obtain ⟨c0, e0⟩ := at_ok ns
  have hcut : (cutD (ns.map D.int) (some 1) (some 8)).length ≤ 63 := by
    unfold cutD
    have := List.length_take_le' (HT.sIx (ns.map D.int).length (ns.map D.int).length (some 8) - HT.sIx (ns.map D.int).length 0 (some 1)) ((ns.map D.int).drop (HT.sIx (ns.map D.int).length 0 (some 1)))
    rw [List.length_drop, List.length_map] at this
    rw [List.length_map]
    omega
  have hints : ∀ d ∈ cutD (ns.map D.int) (some 1) (some 8), ∃ c, d = .int c := fun d hd => by
    unfold cutD at hd
    have := List.mem_of_mem_drop (List.mem_of_mem_take hd)
    obtain ⟨c, _, rfl⟩ := List.mem_map.mp this
    exact ⟨c, rfl⟩
  generalize hcs : cutD (ns.map D.int) (some 1) (some 8) = cs at hcut hints
  obtain ⟨E', e1, m, n, r, ps, N, x2, x3, x4, x5, x6, x7, x8, x9, x10, x11, _, rfl⟩ := forL_inv (g := gSet (.pr false) 2) (b := d_law_2) (ds := .int c0 :: cs) (E := lwE ns (some (.own, .tup [webD 1 [], nm 0, lsD []])) none none none none none none none none none none)
    (fun i E => LawI ns E) ⟨.own, 1, 0, [], [], none, none, none, none, none, none, none, none, none, none, ⟨by omega, by omega, by simp, by simp, by simp⟩, rfl⟩ (by
      rintro i d E hd ⟨m, n, r, ps, N, x2, x3, x4, x5, x6, x7, x8, x9, x10, x11, B, rfl⟩
      have hm := List.mem_of_getElem? hd
      obtain ⟨c, rfl⟩ : ∃ c, d = .int c := by
        rcases List.mem_cons.mp hm with rfl | hm
        · exact ⟨_, rfl⟩
        · exact hints d hm
      obtain ⟨E', k1, k2⟩ := body_ok (ns := ns) (cell := c) (m := m) (x3 := x3) (x4 := x4) (x5 := x5) (x6 := x6) (x7 := x7) (x8 := x8) (x9 := x9) (x10 := x10) (x11 := x11) B
      exact ⟨_, E', by simp [sl_eq, callD_ap, startE, sSeq_ap, sIf_ap, sSet_ap, sRet_ap, sRetN_ap, sDrop_ap, sAsg_ap, sPar2_ap, sFor_ap, sNext_ap, sSetIt_ap, sPairSet_ap, gSetIt_ap, eVar_ap, eC_ap, ePrim_ap, lCons_ap, lNil_ap, lRef_ap, eOwn_ap, eCall_ap, ioW, setIO, setD, ioOut, ioGet, toT_ap, toTr_ap, tfAnd_ap, tfOr_ap, tfNot_ap, tYesF_ap, eIf_ap, eAnd_ap, eOr_ap, eNot_ap, eMut_ap, pName_ap, pSub1_ap, hasP, hasT, tyD, storL, storable, getP, setP, opApp, opIns, opPop, opClear, opExt, opSet, putE, putV, freeze, frz1, newAll, allNew, Mode.frz, Mode.w, Mode.new, retOk, D.atom, D.atomL, D.flat, D.tru, D.node, D.items, D.isNon, gSet_ap, gsNil, gsCons, gTupE, gSeqE, bindN, putP, iSeq_ap, iRg_ap, iEnm_ap, rg1_ap, rg2_ap, eListRg_ap, oNone_ap, oSome_ap, eSlice_ap, pSlice, pTup_ap, pLst_ap, pI2, pNeg, pAdd, pMul, pEq_int, pEq_bl, pEq_str, pEq_nm, pEq_nil, pIsN, pIx, pLen, pAbs, pMin, pMax, pDivmod, pInt, pList, pTuple, pSumA, pAll, pAny, pIn_lst, pIn_tup, pIsi, D.tyn, isiB, flatD, keyD, Kind.S, wipeE, eDict0_ap, eDict1_ap, pGet, nm, atomL_app, atI_0, atI_1, atI_2, atI_3] <;> rfl, k1, k2⟩)
  have f4 : 1 + cs.length ≤ 16777216 := by omega
  simp [lwE, nm, lsD, webD] at e1
  simp [f_law, d_law, sl_eq, callD_ap, startE, sSeq_ap, sIf_ap, sSet_ap, sRet_ap, sRetN_ap, sDrop_ap, sAsg_ap, sPar2_ap, sFor_ap, sNext_ap, sSetIt_ap, sPairSet_ap, gSetIt_ap, eVar_ap, eC_ap, ePrim_ap, lCons_ap, lNil_ap, lRef_ap, eOwn_ap, eCall_ap, ioW, setIO, setD, ioOut, ioGet, toT_ap, toTr_ap, tfAnd_ap, tfOr_ap, tfNot_ap, tYesF_ap, eIf_ap, eAnd_ap, eOr_ap, eNot_ap, eMut_ap, pName_ap, pSub1_ap, hasP, hasT, tyD, storL, storable, getP, setP, opApp, opIns, opPop, opClear, opExt, opSet, putE, putV, freeze, frz1, newAll, allNew, Mode.frz, Mode.w, Mode.new, retOk, D.atom, D.atomL, D.flat, D.tru, D.node, D.items, D.isNon, gSet_ap, gsNil, gsCons, gTupE, gSeqE, bindN, putP, iSeq_ap, iRg_ap, iEnm_ap, rg1_ap, rg2_ap, eListRg_ap, oNone_ap, oSome_ap, eSlice_ap, pSlice, pTup_ap, pLst_ap, pI2, pNeg, pAdd, pMul, pEq_int, pEq_bl, pEq_str, pEq_nm, pEq_nil, pIsN, pIx, pLen, pAbs, pMin, pMax, pDivmod, pInt, pList, pTuple, pSumA, pAll, pAny, pIn_lst, pIn_tup, pIsi, D.tyn, isiB, flatD, keyD, Kind.S, wipeE, eDict0_ap, eDict1_ap, pGet, nm, atomL_app, atI_0, atI_1, atI_2, atI_3, e0, hcs, f4, e1, sizeLine_eq]
end VL
set_option maxHeartbeats 8000000
namespace VL
open PySem PySem.Spec PyProof.Rows L2
open GxR (TabB TabG Tabbed)
theorem all_mk {l : PySem.W.OpenLaw} {w : World} {K : PySem.W.Frag} {h : Heap} {mg : Str → Option Value} {fa : Addr} (X : K.In h) (G : h.Ns mainGlobals mg) (hfa : mg "law" = some (.ref fa))
    {fothers_than : Addr} {odothers_than anothers_than : Option Addr} {slothers_than : Array (Option Value)} {ocothers_than kVothers_than dcothers_than pmothers_than cdothers_than ctothers_than : Value}
    (aothers_than : PySem.W.nsIn K mainGlobals "others_than" = some (some (.ref fothers_than))) (lothers_than : K.lookup fothers_than = some ⟨ocothers_than, odothers_than, .func (PySem.W.fnOf "others_than" "others_than" (defArgs s_others_than) (defBody s_others_than) (defScope s_others_than) .none kVothers_than dcothers_than pmothers_than anothers_than cdothers_than ctothers_than), slothers_than⟩)
    (cothers_than : PySem.W.codeIn K cdothers_than "others_than" = true) (kothers_than : PySem.W.keepIn K (.ref fothers_than) = true)
    {fway_by : Addr} {odway_by anway_by : Option Addr} {slway_by : Array (Option Value)} {ocway_by kVway_by dcway_by pmway_by cdway_by ctway_by : Value}
    (away_by : PySem.W.nsIn K mainGlobals "way_by" = some (some (.ref fway_by))) (lway_by : K.lookup fway_by = some ⟨ocway_by, odway_by, .func (PySem.W.fnOf "way_by" "way_by" (defArgs s_way_by) (defBody s_way_by) (defScope s_way_by) .none kVway_by dcway_by pmway_by anway_by cdway_by ctway_by), slway_by⟩)
    (cway_by : PySem.W.codeIn K cdway_by "way_by" = true) (kway_by : PySem.W.keepIn K (.ref fway_by) = true)
    {fring_in : Addr} {odring_in anring_in : Option Addr} {slring_in : Array (Option Value)} {ocring_in kVring_in dcring_in pmring_in cdring_in ctring_in : Value}
    (aring_in : PySem.W.nsIn K mainGlobals "ring_in" = some (some (.ref fring_in))) (lring_in : K.lookup fring_in = some ⟨ocring_in, odring_in, .func (PySem.W.fnOf "ring_in" "ring_in" (defArgs s_ring_in) (defBody s_ring_in) (defScope s_ring_in) .none kVring_in dcring_in pmring_in anring_in cdring_in ctring_in), slring_in⟩)
    (cring_in : PySem.W.codeIn K cdring_in "ring_in" = true) (kring_in : PySem.W.keepIn K (.ref fring_in) = true)
    {fis_wood : Addr} {odis_wood anis_wood : Option Addr} {slis_wood : Array (Option Value)} {ocis_wood kVis_wood dcis_wood pmis_wood cdis_wood ctis_wood : Value}
    (ais_wood : PySem.W.nsIn K mainGlobals "is_wood" = some (some (.ref fis_wood))) (lis_wood : K.lookup fis_wood = some ⟨ocis_wood, odis_wood, .func (PySem.W.fnOf "is_wood" "is_wood" (defArgs s_is_wood) (defBody s_is_wood) (defScope s_is_wood) .none kVis_wood dcis_wood pmis_wood anis_wood cdis_wood ctis_wood), slis_wood⟩)
    (cis_wood : PySem.W.codeIn K cdis_wood "is_wood" = true) (kis_wood : PySem.W.keepIn K (.ref fis_wood) = true)
    {fis_spread : Addr} {odis_spread anis_spread : Option Addr} {slis_spread : Array (Option Value)} {ocis_spread kVis_spread dcis_spread pmis_spread cdis_spread ctis_spread : Value}
    (ais_spread : PySem.W.nsIn K mainGlobals "is_spread" = some (some (.ref fis_spread))) (lis_spread : K.lookup fis_spread = some ⟨ocis_spread, odis_spread, .func (PySem.W.fnOf "is_spread" "is_spread" (defArgs s_is_spread) (defBody s_is_spread) (defScope s_is_spread) .none kVis_spread dcis_spread pmis_spread anis_spread cdis_spread ctis_spread), slis_spread⟩)
    (cis_spread : PySem.W.codeIn K cdis_spread "is_spread" = true) (kis_spread : PySem.W.keepIn K (.ref fis_spread) = true)
    {flaw_at : Addr} {odlaw_at anlaw_at : Option Addr} {sllaw_at : Array (Option Value)} {oclaw_at kVlaw_at dclaw_at pmlaw_at cdlaw_at ctlaw_at : Value}
    (alaw_at : PySem.W.nsIn K mainGlobals "_law_at" = some (some (.ref flaw_at))) (llaw_at : K.lookup flaw_at = some ⟨oclaw_at, odlaw_at, .func (PySem.W.fnOf "_law_at" "_law_at" (defArgs s_law_at) (defBody s_law_at) (defScope s_law_at) .none kVlaw_at dclaw_at pmlaw_at anlaw_at cdlaw_at ctlaw_at), sllaw_at⟩)
    (claw_at : PySem.W.codeIn K cdlaw_at "_law_at" = true) (klaw_at : PySem.W.keepIn K (.ref flaw_at) = true)
    {flaw_pot : Addr} {odlaw_pot anlaw_pot : Option Addr} {sllaw_pot : Array (Option Value)} {oclaw_pot kVlaw_pot dclaw_pot pmlaw_pot cdlaw_pot ctlaw_pot : Value}
    (alaw_pot : PySem.W.nsIn K mainGlobals "_law_pot" = some (some (.ref flaw_pot))) (llaw_pot : K.lookup flaw_pot = some ⟨oclaw_pot, odlaw_pot, .func (PySem.W.fnOf "_law_pot" "_law_pot" (defArgs s_law_pot) (defBody s_law_pot) (defScope s_law_pot) .none kVlaw_pot dclaw_pot pmlaw_pot anlaw_pot cdlaw_pot ctlaw_pot), sllaw_pot⟩)
    (claw_pot : PySem.W.codeIn K cdlaw_pot "_law_pot" = true) (klaw_pot : PySem.W.keepIn K (.ref flaw_pot) = true)
    {flaw_take : Addr} {odlaw_take anlaw_take : Option Addr} {sllaw_take : Array (Option Value)} {oclaw_take kVlaw_take dclaw_take pmlaw_take cdlaw_take ctlaw_take : Value}
    (alaw_take : PySem.W.nsIn K mainGlobals "_law_take" = some (some (.ref flaw_take))) (llaw_take : K.lookup flaw_take = some ⟨oclaw_take, odlaw_take, .func (PySem.W.fnOf "_law_take" "_law_take" (defArgs s_law_take) (defBody s_law_take) (defScope s_law_take) .none kVlaw_take dclaw_take pmlaw_take anlaw_take cdlaw_take ctlaw_take), sllaw_take⟩)
    (claw_take : PySem.W.codeIn K cdlaw_take "_law_take" = true) (klaw_take : PySem.W.keepIn K (.ref flaw_take) = true)
    {flaw_pair : Addr} {odlaw_pair anlaw_pair : Option Addr} {sllaw_pair : Array (Option Value)} {oclaw_pair kVlaw_pair dclaw_pair pmlaw_pair cdlaw_pair ctlaw_pair : Value}
    (alaw_pair : PySem.W.nsIn K mainGlobals "_law_pair" = some (some (.ref flaw_pair))) (llaw_pair : K.lookup flaw_pair = some ⟨oclaw_pair, odlaw_pair, .func (PySem.W.fnOf "_law_pair" "_law_pair" (defArgs s_law_pair) (defBody s_law_pair) (defScope s_law_pair) .none kVlaw_pair dclaw_pair pmlaw_pair anlaw_pair cdlaw_pair ctlaw_pair), sllaw_pair⟩)
    (claw_pair : PySem.W.codeIn K cdlaw_pair "_law_pair" = true) (klaw_pair : PySem.W.keepIn K (.ref flaw_pair) = true)
    {flaw_tied : Addr} {odlaw_tied anlaw_tied : Option Addr} {sllaw_tied : Array (Option Value)} {oclaw_tied kVlaw_tied dclaw_tied pmlaw_tied cdlaw_tied ctlaw_tied : Value}
    (alaw_tied : PySem.W.nsIn K mainGlobals "_law_tied" = some (some (.ref flaw_tied))) (llaw_tied : K.lookup flaw_tied = some ⟨oclaw_tied, odlaw_tied, .func (PySem.W.fnOf "_law_tied" "_law_tied" (defArgs s_law_tied) (defBody s_law_tied) (defScope s_law_tied) .none kVlaw_tied dclaw_tied pmlaw_tied anlaw_tied cdlaw_tied ctlaw_tied), sllaw_tied⟩)
    (claw_tied : PySem.W.codeIn K cdlaw_tied "_law_tied" = true) (klaw_tied : PySem.W.keepIn K (.ref flaw_tied) = true)
    {flaw_clumps : Addr} {odlaw_clumps anlaw_clumps : Option Addr} {sllaw_clumps : Array (Option Value)} {oclaw_clumps kVlaw_clumps dclaw_clumps pmlaw_clumps cdlaw_clumps ctlaw_clumps : Value}
    (alaw_clumps : PySem.W.nsIn K mainGlobals "_law_clumps" = some (some (.ref flaw_clumps))) (llaw_clumps : K.lookup flaw_clumps = some ⟨oclaw_clumps, odlaw_clumps, .func (PySem.W.fnOf "_law_clumps" "_law_clumps" (defArgs s_law_clumps) (defBody s_law_clumps) (defScope s_law_clumps) .none kVlaw_clumps dclaw_clumps pmlaw_clumps anlaw_clumps cdlaw_clumps ctlaw_clumps), sllaw_clumps⟩)
    (claw_clumps : PySem.W.codeIn K cdlaw_clumps "_law_clumps" = true) (klaw_clumps : PySem.W.keepIn K (.ref flaw_clumps) = true)
    {flaw_turned : Addr} {odlaw_turned anlaw_turned : Option Addr} {sllaw_turned : Array (Option Value)} {oclaw_turned kVlaw_turned dclaw_turned pmlaw_turned cdlaw_turned ctlaw_turned : Value}
    (alaw_turned : PySem.W.nsIn K mainGlobals "_law_turned" = some (some (.ref flaw_turned))) (llaw_turned : K.lookup flaw_turned = some ⟨oclaw_turned, odlaw_turned, .func (PySem.W.fnOf "_law_turned" "_law_turned" (defArgs s_law_turned) (defBody s_law_turned) (defScope s_law_turned) .none kVlaw_turned dclaw_turned pmlaw_turned anlaw_turned cdlaw_turned ctlaw_turned), sllaw_turned⟩)
    (claw_turned : PySem.W.codeIn K cdlaw_turned "_law_turned" = true) (klaw_turned : PySem.W.keepIn K (.ref flaw_turned) = true)
    {flaw_web : Addr} {odlaw_web anlaw_web : Option Addr} {sllaw_web : Array (Option Value)} {oclaw_web kVlaw_web dclaw_web pmlaw_web cdlaw_web ctlaw_web : Value}
    (alaw_web : PySem.W.nsIn K mainGlobals "_law_web" = some (some (.ref flaw_web))) (llaw_web : K.lookup flaw_web = some ⟨oclaw_web, odlaw_web, .func (PySem.W.fnOf "_law_web" "_law_web" (defArgs s_law_web) (defBody s_law_web) (defScope s_law_web) .none kVlaw_web dclaw_web pmlaw_web anlaw_web cdlaw_web ctlaw_web), sllaw_web⟩)
    (claw_web : PySem.W.codeIn K cdlaw_web "_law_web" = true) (klaw_web : PySem.W.keepIn K (.ref flaw_web) = true)
    {flaw_is_spread : Addr} {odlaw_is_spread anlaw_is_spread : Option Addr} {sllaw_is_spread : Array (Option Value)} {oclaw_is_spread kVlaw_is_spread dclaw_is_spread pmlaw_is_spread cdlaw_is_spread ctlaw_is_spread : Value}
    (alaw_is_spread : PySem.W.nsIn K mainGlobals "_law_is_spread" = some (some (.ref flaw_is_spread))) (llaw_is_spread : K.lookup flaw_is_spread = some ⟨oclaw_is_spread, odlaw_is_spread, .func (PySem.W.fnOf "_law_is_spread" "_law_is_spread" (defArgs s_law_is_spread) (defBody s_law_is_spread) (defScope s_law_is_spread) .none kVlaw_is_spread dclaw_is_spread pmlaw_is_spread anlaw_is_spread cdlaw_is_spread ctlaw_is_spread), sllaw_is_spread⟩)
    (claw_is_spread : PySem.W.codeIn K cdlaw_is_spread "_law_is_spread" = true) (klaw_is_spread : PySem.W.keepIn K (.ref flaw_is_spread) = true)
    {flaw_grown : Addr} {odlaw_grown anlaw_grown : Option Addr} {sllaw_grown : Array (Option Value)} {oclaw_grown kVlaw_grown dclaw_grown pmlaw_grown cdlaw_grown ctlaw_grown : Value}
    (alaw_grown : PySem.W.nsIn K mainGlobals "_law_grown" = some (some (.ref flaw_grown))) (llaw_grown : K.lookup flaw_grown = some ⟨oclaw_grown, odlaw_grown, .func (PySem.W.fnOf "_law_grown" "_law_grown" (defArgs s_law_grown) (defBody s_law_grown) (defScope s_law_grown) .none kVlaw_grown dclaw_grown pmlaw_grown anlaw_grown cdlaw_grown ctlaw_grown), sllaw_grown⟩)
    (claw_grown : PySem.W.codeIn K cdlaw_grown "_law_grown" = true) (klaw_grown : PySem.W.keepIn K (.ref flaw_grown) = true)
    {flaw_numbers : Addr} {odlaw_numbers anlaw_numbers : Option Addr} {sllaw_numbers : Array (Option Value)} {oclaw_numbers kVlaw_numbers dclaw_numbers pmlaw_numbers cdlaw_numbers ctlaw_numbers : Value}
    (alaw_numbers : PySem.W.nsIn K mainGlobals "_law_numbers" = some (some (.ref flaw_numbers))) (llaw_numbers : K.lookup flaw_numbers = some ⟨oclaw_numbers, odlaw_numbers, .func (PySem.W.fnOf "_law_numbers" "_law_numbers" (defArgs s_law_numbers) (defBody s_law_numbers) (defScope s_law_numbers) .none kVlaw_numbers dclaw_numbers pmlaw_numbers anlaw_numbers cdlaw_numbers ctlaw_numbers), sllaw_numbers⟩)
    (claw_numbers : PySem.W.codeIn K cdlaw_numbers "_law_numbers" = true) (klaw_numbers : PySem.W.keepIn K (.ref flaw_numbers) = true)
    {flaw_right : Addr} {odlaw_right anlaw_right : Option Addr} {sllaw_right : Array (Option Value)} {oclaw_right kVlaw_right dclaw_right pmlaw_right cdlaw_right ctlaw_right : Value}
    (alaw_right : PySem.W.nsIn K mainGlobals "_law_right" = some (some (.ref flaw_right))) (llaw_right : K.lookup flaw_right = some ⟨oclaw_right, odlaw_right, .func (PySem.W.fnOf "_law_right" "_law_right" (defArgs s_law_right) (defBody s_law_right) (defScope s_law_right) .none kVlaw_right dclaw_right pmlaw_right anlaw_right cdlaw_right ctlaw_right), sllaw_right⟩)
    (claw_right : PySem.W.codeIn K cdlaw_right "_law_right" = true) (klaw_right : PySem.W.keepIn K (.ref flaw_right) = true)
    {flaw : Addr} {odlaw anlaw : Option Addr} {sllaw : Array (Option Value)} {oclaw kVlaw dclaw pmlaw cdlaw ctlaw : Value}
    (alaw : PySem.W.nsIn K mainGlobals "law" = some (some (.ref flaw))) (llaw : K.lookup flaw = some ⟨oclaw, odlaw, .func (PySem.W.fnOf "law" "law" (defArgs s_law) (defBody s_law) (defScope s_law) .none kVlaw dclaw pmlaw anlaw cdlaw ctlaw), sllaw⟩)
    (claw : PySem.W.codeIn K cdlaw "law" = true) (klaw : PySem.W.keepIn K (.ref flaw) = true)
    (z0 : PySem.W.nsIn K mainGlobals "abs" = some none)
    (z1 : PySem.W.nsIn K mainGlobals "bool" = some none)
    (z2 : PySem.W.nsIn K mainGlobals "divmod" = some none)
    (z3 : PySem.W.nsIn K mainGlobals "int" = some none)
    (z4 : PySem.W.nsIn K mainGlobals "isinstance" = some none)
    (z5 : PySem.W.nsIn K mainGlobals "len" = some none)
    (z6 : PySem.W.nsIn K mainGlobals "list" = some none)
    (z7 : PySem.W.nsIn K mainGlobals "max" = some none)
    (z8 : PySem.W.nsIn K mainGlobals "range" = some none)
    (z9 : PySem.W.nsIn K mainGlobals "sorted" = some none)
    (z10 : PySem.W.nsIn K mainGlobals "sum" = some none)
    (z11 : PySem.W.nsIn K mainGlobals "tuple" = some none)
    : ∃ fd : FuncData, (∀ (s : Shared) (v : Value), BindsTo s fd ⟨[v], []⟩ [("_law_script", v)]) ∧ ∀ b0 : Heap, K.In b0 → b0.Ns mainGlobals mg → TA.FnG l.prog w K mg b0 CX0 6 fa fd ["_law_script"] (spV ⟨K, [], fun _ => 0⟩ [] true 1 f_law) := by
  have e := hfa.symm.trans (PySem.W.mg_of X G alaw)
  cases e
  have F_others_than := fun_mk (st := s_others_than) lothers_than cothers_than kothers_than
  have b_others_than := F_others_than.binds (ps := ["lane_web", "root"]) fun _ _ _ _ _ _ us hl => match us, hl with | [_, _], _ => rfl
  have g_others_than := PySem.W.mg_of X G aothers_than
  have F_way_by := fun_mk (st := s_way_by) lway_by cway_by kway_by
  have b_way_by := F_way_by.binds (ps := ["web", "numbers", "a", "b"]) fun _ _ _ _ _ _ us hl => match us, hl with | [_, _, _, _], _ => rfl
  have g_way_by := PySem.W.mg_of X G away_by
  have F_ring_in := fun_mk (st := s_ring_in) lring_in cring_in kring_in
  have b_ring_in := F_ring_in.binds (ps := ["web", "numbers"]) fun _ _ _ _ _ _ us hl => match us, hl with | [_, _], _ => rfl
  have g_ring_in := PySem.W.mg_of X G aring_in
  have F_is_wood := fun_mk (st := s_is_wood) lis_wood cis_wood kis_wood
  have b_is_wood := F_is_wood.binds (ps := ["web", "numbers"]) fun _ _ _ _ _ _ us hl => match us, hl with | [_, _], _ => rfl
  have g_is_wood := PySem.W.mg_of X G ais_wood
  have F_is_spread := fun_mk (st := s_is_spread) lis_spread cis_spread kis_spread
  have b_is_spread := F_is_spread.binds (ps := ["lane_web", "root", "numbers"]) fun _ _ _ _ _ _ us hl => match us, hl with | [_, _, _], _ => rfl
  have g_is_spread := PySem.W.mg_of X G ais_spread
  have F_law_at := fun_mk (st := s_law_at) llaw_at claw_at klaw_at
  have b_law_at := F_law_at.binds (ps := ["_law_script", "_law_k"]) fun _ _ _ _ _ _ us hl => match us, hl with | [_, _], _ => rfl
  have g_law_at := PySem.W.mg_of X G alaw_at
  have F_law_pot := fun_mk (st := s_law_pot) llaw_pot claw_pot klaw_pot
  have b_law_pot := F_law_pot.binds (ps := ["_law_cell"]) fun _ _ _ _ _ _ us hl => match us, hl with | [_], _ => rfl
  have g_law_pot := PySem.W.mg_of X G alaw_pot
  have F_law_take := fun_mk (st := s_law_take) llaw_take claw_take klaw_take
  have b_law_take := F_law_take.binds (ps := ["_law_pot_here", "_law_many"]) fun _ _ _ _ _ _ us hl => match us, hl with | [_, _], _ => rfl
  have g_law_take := PySem.W.mg_of X G alaw_take
  have F_law_pair := fun_mk (st := s_law_pair) llaw_pair claw_pair klaw_pair
  have b_law_pair := F_law_pair.binds (ps := ["_law_pot_here", "_law_places"]) fun _ _ _ _ _ _ us hl => match us, hl with | [_, _], _ => rfl
  have g_law_pair := PySem.W.mg_of X G alaw_pair
  have F_law_tied := fun_mk (st := s_law_tied) llaw_tied claw_tied klaw_tied
  have b_law_tied := F_law_tied.binds (ps := ["_law_pot_here", "_law_low", "_law_high", "_law_rounds"]) fun _ _ _ _ _ _ us hl => match us, hl with | [_, _, _, _], _ => rfl
  have g_law_tied := PySem.W.mg_of X G alaw_tied
  have F_law_clumps := fun_mk (st := s_law_clumps) llaw_clumps claw_clumps klaw_clumps
  have b_law_clumps := F_law_clumps.binds (ps := ["_law_pot_here", "_law_places"]) fun _ _ _ _ _ _ us hl => match us, hl with | [_, _], _ => rfl
  have g_law_clumps := PySem.W.mg_of X G alaw_clumps
  have F_law_turned := fun_mk (st := s_law_turned) llaw_turned claw_turned klaw_turned
  have b_law_turned := F_law_turned.binds (ps := ["_law_pot_here", "_law_places", "_law_lanes"]) fun _ _ _ _ _ _ us hl => match us, hl with | [_, _, _], _ => rfl
  have g_law_turned := PySem.W.mg_of X G alaw_turned
  have F_law_web := fun_mk (st := s_law_web) llaw_web claw_web klaw_web
  have b_law_web := F_law_web.binds (ps := ["_law_pot_here"]) fun _ _ _ _ _ _ us hl => match us, hl with | [_], _ => rfl
  have g_law_web := PySem.W.mg_of X G alaw_web
  have F_law_is_spread := fun_mk (st := s_law_is_spread) llaw_is_spread claw_is_spread klaw_is_spread
  have b_law_is_spread := F_law_is_spread.binds (ps := ["_law_web_here", "_law_root", "_law_numbers_here"]) fun _ _ _ _ _ _ us hl => match us, hl with | [_, _, _], _ => rfl
  have g_law_is_spread := PySem.W.mg_of X G alaw_is_spread
  have F_law_grown := fun_mk (st := s_law_grown) llaw_grown claw_grown klaw_grown
  have b_law_grown := F_law_grown.binds (ps := ["_law_pot_here", "_law_web_here", "_law_root"]) fun _ _ _ _ _ _ us hl => match us, hl with | [_, _, _], _ => rfl
  have g_law_grown := PySem.W.mg_of X G alaw_grown
  have F_law_numbers := fun_mk (st := s_law_numbers) llaw_numbers claw_numbers klaw_numbers
  have b_law_numbers := F_law_numbers.binds (ps := ["_law_pot_here", "_law_web_here", "_law_root"]) fun _ _ _ _ _ _ us hl => match us, hl with | [_, _, _], _ => rfl
  have g_law_numbers := PySem.W.mg_of X G alaw_numbers
  have F_law_right := fun_mk (st := s_law_right) llaw_right claw_right klaw_right
  have b_law_right := F_law_right.binds (ps := ["_law_web_here", "_law_root", "_law_numbers_here", "_law_is_tuple"]) fun _ _ _ _ _ _ us hl => match us, hl with | [_, _, _, _], _ => rfl
  have g_law_right := PySem.W.mg_of X G alaw_right
  have F_law := fun_mk (st := s_law) llaw claw klaw
  have b_law := F_law.binds (ps := ["_law_script"]) fun _ _ _ _ _ _ us hl => match us, hl with | [_], _ => rfl
  have g_law := PySem.W.mg_of X G alaw
  have m_abs := PySem.W.mg_none_of X G z0
  have m_bool := PySem.W.mg_none_of X G z1
  have m_divmod := PySem.W.mg_none_of X G z2
  have m_int := PySem.W.mg_none_of X G z3
  have m_isinstance := PySem.W.mg_none_of X G z4
  have m_len := PySem.W.mg_none_of X G z5
  have m_list := PySem.W.mg_none_of X G z6
  have m_max := PySem.W.mg_none_of X G z7
  have m_range := PySem.W.mg_none_of X G z8
  have m_sorted := PySem.W.mg_none_of X G z9
  have m_sum := PySem.W.mg_none_of X G z10
  have m_tuple := PySem.W.mg_none_of X G z11
  let Q : Fx ⟨K, [], fun _ => 0⟩ mg := { a_others_than := _, fd_others_than := _, F_others_than := F_others_than, b_others_than := b_others_than, g_others_than := g_others_than, a_way_by := _, fd_way_by := _, F_way_by := F_way_by, b_way_by := b_way_by, g_way_by := g_way_by, a_ring_in := _, fd_ring_in := _, F_ring_in := F_ring_in, b_ring_in := b_ring_in, g_ring_in := g_ring_in, a_is_wood := _, fd_is_wood := _, F_is_wood := F_is_wood, b_is_wood := b_is_wood, g_is_wood := g_is_wood, a_is_spread := _, fd_is_spread := _, F_is_spread := F_is_spread, b_is_spread := b_is_spread, g_is_spread := g_is_spread, a_law_at := _, fd_law_at := _, F_law_at := F_law_at, b_law_at := b_law_at, g_law_at := g_law_at, a_law_pot := _, fd_law_pot := _, F_law_pot := F_law_pot, b_law_pot := b_law_pot, g_law_pot := g_law_pot, a_law_take := _, fd_law_take := _, F_law_take := F_law_take, b_law_take := b_law_take, g_law_take := g_law_take, a_law_pair := _, fd_law_pair := _, F_law_pair := F_law_pair, b_law_pair := b_law_pair, g_law_pair := g_law_pair, a_law_tied := _, fd_law_tied := _, F_law_tied := F_law_tied, b_law_tied := b_law_tied, g_law_tied := g_law_tied, a_law_clumps := _, fd_law_clumps := _, F_law_clumps := F_law_clumps, b_law_clumps := b_law_clumps, g_law_clumps := g_law_clumps, a_law_turned := _, fd_law_turned := _, F_law_turned := F_law_turned, b_law_turned := b_law_turned, g_law_turned := g_law_turned, a_law_web := _, fd_law_web := _, F_law_web := F_law_web, b_law_web := b_law_web, g_law_web := g_law_web, a_law_is_spread := _, fd_law_is_spread := _, F_law_is_spread := F_law_is_spread, b_law_is_spread := b_law_is_spread, g_law_is_spread := g_law_is_spread, a_law_grown := _, fd_law_grown := _, F_law_grown := F_law_grown, b_law_grown := b_law_grown, g_law_grown := g_law_grown, a_law_numbers := _, fd_law_numbers := _, F_law_numbers := F_law_numbers, b_law_numbers := b_law_numbers, g_law_numbers := g_law_numbers, a_law_right := _, fd_law_right := _, F_law_right := F_law_right, b_law_right := b_law_right, g_law_right := g_law_right, a_law := _, fd_law := _, F_law := F_law, b_law := b_law, g_law := g_law, m_abs := m_abs, m_bool := m_bool, m_divmod := m_divmod, m_int := m_int, m_isinstance := m_isinstance, m_len := m_len, m_list := m_list, m_max := m_max, m_range := m_range, m_sorted := m_sorted, m_sum := m_sum, m_tuple := m_tuple }
  exact ⟨PySem.W.fnOf "law" "law" (defArgs s_law) (defBody s_law) (defScope s_law) .none kVlaw dclaw pmlaw anlaw cdlaw ctlaw, fun s v => .of_eq rfl, fun b0 _ _ => ok_law Q⟩
end VL
open PySem PySem.W PyProof.Rows
set_option maxHeartbeats 0 in
theorem PySem.Challenge.cw_treesapart_k71_spreads_judged_holds : PySem.Challenge.rw_treesapart_k71_spreads_judged.Holds := by
  w_on; o_law; k_head; (case hw => w_witness2)
  k_fill
  refine TA.walkG (l := PySem.Challenge.rw_treesapart_k71_spreads_judged) (n := 63) (k := 6) (x := "_law_script") (sp := fun w => VL.spV ⟨_, [], fun _ => 0⟩ [] true 1 VL.f_law) rfl (by decide) rfl ⟨rfl, by decide, by decide⟩ (fun w h Y => PySem.W.kIn_of Y) ?F (fun _ _ a ns hl hO hS => VL.law_end hO hS (VL.law_true ns hl))
  case F =>
    intro w mg fa h KX G hmg
    refine' VL.all_mk KX G hmg ?aothers_than ?lothers_than ?cothers_than ?kothers_than ?away_by ?lway_by ?cway_by ?kway_by ?aring_in ?lring_in ?cring_in ?kring_in ?ais_wood ?lis_wood ?cis_wood ?kis_wood ?ais_spread ?lis_spread ?cis_spread ?kis_spread ?alaw_at ?llaw_at ?claw_at ?klaw_at ?alaw_pot ?llaw_pot ?claw_pot ?klaw_pot ?alaw_take ?llaw_take ?claw_take ?klaw_take ?alaw_pair ?llaw_pair ?claw_pair ?klaw_pair ?alaw_tied ?llaw_tied ?claw_tied ?klaw_tied ?alaw_clumps ?llaw_clumps ?claw_clumps ?klaw_clumps ?alaw_turned ?llaw_turned ?claw_turned ?klaw_turned ?alaw_web ?llaw_web ?claw_web ?klaw_web ?alaw_is_spread ?llaw_is_spread ?claw_is_spread ?klaw_is_spread ?alaw_grown ?llaw_grown ?claw_grown ?klaw_grown ?alaw_numbers ?llaw_numbers ?claw_numbers ?klaw_numbers ?alaw_right ?llaw_right ?claw_right ?klaw_right ?alaw ?llaw ?claw ?klaw ?z0 ?z1 ?z2 ?z3 ?z4 ?z5 ?z6 ?z7 ?z8 ?z9 ?z10 ?z11
    (case aothers_than => k_is); (case lothers_than => k_is); (case cothers_than => k_is); (case kothers_than => k_is); (case away_by => k_is); (case lway_by => k_is); (case cway_by => k_is); (case kway_by => k_is); (case aring_in => k_is); (case lring_in => k_is); (case cring_in => k_is); (case kring_in => k_is); (case ais_wood => k_is); (case lis_wood => k_is); (case cis_wood => k_is); (case kis_wood => k_is); (case ais_spread => k_is); (case lis_spread => k_is); (case cis_spread => k_is); (case kis_spread => k_is); (case alaw_at => k_is); (case llaw_at => k_is); (case claw_at => k_is); (case klaw_at => k_is); (case alaw_pot => k_is); (case llaw_pot => k_is); (case claw_pot => k_is); (case klaw_pot => k_is); (case alaw_take => k_is); (case llaw_take => k_is); (case claw_take => k_is); (case klaw_take => k_is); (case alaw_pair => k_is); (case llaw_pair => k_is); (case claw_pair => k_is); (case klaw_pair => k_is); (case alaw_tied => k_is); (case llaw_tied => k_is); (case claw_tied => k_is); (case klaw_tied => k_is); (case alaw_clumps => k_is); (case llaw_clumps => k_is); (case claw_clumps => k_is); (case klaw_clumps => k_is); (case alaw_turned => k_is); (case llaw_turned => k_is); (case claw_turned => k_is); (case klaw_turned => k_is); (case alaw_web => k_is); (case llaw_web => k_is); (case claw_web => k_is); (case klaw_web => k_is); (case alaw_is_spread => k_is); (case llaw_is_spread => k_is); (case claw_is_spread => k_is); (case klaw_is_spread => k_is); (case alaw_grown => k_is); (case llaw_grown => k_is); (case claw_grown => k_is); (case klaw_grown => k_is); (case alaw_numbers => k_is); (case llaw_numbers => k_is); (case claw_numbers => k_is); (case klaw_numbers => k_is); (case alaw_right => k_is); (case llaw_right => k_is); (case claw_right => k_is); (case klaw_right => k_is); (case alaw => k_is); (case llaw => k_is); (case claw => k_is); (case klaw => k_is); (case z0 => k_is); (case z1 => k_is); (case z2 => k_is); (case z3 => k_is); (case z4 => k_is); (case z5 => k_is); (case z6 => k_is); (case z7 => k_is); (case z8 => k_is); (case z9 => k_is); (case z10 => k_is); (case z11 => k_is)
