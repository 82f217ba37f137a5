import PyProof.Rows.All
import Wide.All
import OpenK.AllK
import Wide.FinOn
import HandS.List
import HandS.Comp
import HandS.Ends
import HandS.Dict
import HandS.Iter
import HandS.Words
import PyProof.ReprRoads
import KE.SortData
import KE.DataMinMax
import HandS.GenList
import HandS.GenYield
import HandS.AnyAll
import HandS.JoinGen
import PyProof.TupleOfGen
import KE.GoesMore
import HandS.Style
import KE.KNest
import HandS.EndTab
import HandS.ForMost
import HandS.More
import HandS.Conv
import HandS.IsInst
import HandS.DeepEq
import PySem.Challenge.RW_treesapart_k11_webs_made
set_option Elab.async false
set_option linter.all false
set_option maxRecDepth 100000
set_option maxHeartbeats 2000000
/-! What HandS lacks for a law that writes things out: no repr is under way (guards). -/
namespace TA
open PySem PySem.Spec PyProof.Rows L2
/-- a def's promise, asked only where no repr is under way -/
structure FnG (P : Program) (w : World) (K : PySem.W.Frag) (mg : Str → Option Value) (b0 : Heap)
    (CX : CXT) (k : Nat) (f : Addr) (fd : FuncData) (ps : List Str) (sp : Sp) : Prop where
  len : ∀ vs H Q E, sp vs H Q E → vs.length = ps.length
  run : ∀ (B : Around) (ou : List Env) (s : Shared) (H : Hp) (ar : Args) (us : List Value) (vs : List V)
    (Q : VK) (E : XK), B.guards = some [] → Room k B → Env0 P w K mg b0 B ou s H →
    BindsTo s fd ar (ps.zip us) → Vals vs us → sp vs H Q E →
    codeAny (model P w) B (.call (.ref f) ar) (CR CX ou P w H s Q E) s
section
variable {P : Program} {w : World} {K : PySem.W.Frag} {mg : Str → Option Value} {b0 : Heap} {CX : CXT}
variable {k : Nat} {f : Addr} {fd : FuncData} {ps : List Str} {sp : Sp}
theorem FnG.of (F : FnOk P w K mg b0 CX k f fd ps sp) : FnG P w K mg b0 CX k f fd ps sp :=
  ⟨F.len, fun B ou s H ar us vs Q E _ => F.run B ou s H ar us vs Q E⟩
theorem FnG.mono {j : Nat} (F : FnG P w K mg b0 CX j f fd ps sp) (h : j ≤ k) : FnG P w K mg b0 CX k f fd ps sp :=
  ⟨F.len, fun B ou s H ar us vs Q E g hr => F.run B ou s H ar us vs Q E g (hr.mono h)⟩
end
section
variable {X : Cx} {CX : CXT} {k : Nat} {f : Addr} {fd : FuncData} {ps : List Str} {sp : Sp} {dvs : List V}
variable {ds : List Value} {E : XK} {x : Str} {p pos : Pos} {e : Expr} {es : List Expr} {t : TA}
theorem run_fnG {pins : List (Addr × Obj)} {σ : L2.St} {H : Hp} {s : Shared} {Q : VK} {us : List Value}
    {vs : List V} (F : FnG X.prog X.w X.K X.mg X.base CX k f fd ps sp) (hg : X.A.guards = some [])
    (hr : Room k X.A) (hb : Binds X.K fd ps ds) (hd : Vals dvs ds) (hx : Passes CX X E)
    (I : Inv X pins σ H s) (r : Vals vs us) (h : sp (vs ++ dvs) H Q E) :
    wpAny (model X.prog X.w) X.A (call (.ref f) us) (EP X pins σ Q) X.xe s := by
  have rr : Vals (vs ++ dvs) (us ++ ds) := r.append hd
  have hl : (us ++ ds).length = ps.length := rr.length ▸ F.len _ _ _ _ h
  have go := F.run X.A X.stack s H ⟨us, []⟩ (us ++ ds) (vs ++ dvs) Q E hg hr I.env0 (hb s us I.kIn hl) rr h
  refine wpAny_call (codeAny_mono go fun z s' hq => ?_)
  match z, hq with
  | .error e, hq => exact hx pins σ H s e s' I hq
  | .ok (.ret u), hq => exact I.after hq
  | .ok .next, hq => exact False.elim hq
  | .ok .brk, hq => exact False.elim hq
  | .ok .cont, hq => exact False.elim hq
theorem pe_callG (F : FnG X.prog X.w X.K X.mg X.base CX k f fd ps sp) (hg : X.A.guards = some [])
    (hr : Room k X.A) (hgl : Gl X x) (hm : X.mg x = some (.ref f)) (hk : PySem.W.keepIn X.K (.ref f) = true)
    (hb : Binds X.K fd ps ds) (hd : Vals dvs ds) (hx : Passes CX X E) (ha : PA X (e :: es) t)
    (hdb : (x == ("__debug__" : Str)) = false := by decide)
    (he : starEach (e :: es) X.env = (false, eval e X.env) :: starEach es X.env := by rfl)
    (hpl : (backTo pos (starEach es X.env)).any (·.1) = false := by rfl) :
    PE X (.Call (.Name x p) (e :: es) [] pos) (tCall sp dvs E t) := by
  refine ⟨fun pins s σ H Q I h => wpAny_Call_Name_kw (ld_glob I hgl hm ?_ hdb)⟩
  have ar := thn (ha.run pos pins s σ H _ I h) fun us s1 (⟨vs, H1, I1, r, q⟩ : AP X pins σ _ us s1) =>
    show s1.heap = s1.heap ∧ (X.K.In s1.heap ∧ wpAny (model X.prog X.w) X.A (call (.ref f) us) (EP X pins σ Q) X.xe s1) from
      ⟨rfl, I1.kIn, run_fnG F hg hr hb hd hx I1 r q⟩
  exact PySem.W.callWith_K (h₀ := X.base) I.ok.mod.kin hk (thn ar fun us s1 z => z.2) he hpl
end
/-! ### a def's body, where no repr is under way -/
section
variable {P : Program} {w : World} {K : PySem.W.Frag} {mg : Str → Option Value} {b0 : Heap} {CX : CXT}
theorem fnG_of {k : Nat} {f : Addr} {nm qu : Str} {pa : Arguments} {bd : List Stmt} {sc : Scope}
    {dV kV dc pm cd ct oc : Value} {an od : Option Addr} {sl : Array (Option Value)} {N ps : List Str} {sp : Sp}
    (lk : K.lookup f = some ⟨oc, od, .func (PySem.W.fnOf nm qu pa bd sc dV kV dc pm an cd ct), sl⟩)
    (hcd : PySem.W.codeIn K cd qu = true) (S : FnScope N ps sc)
    (len : ∀ vs H Q E, sp vs H Q E → vs.length = ps.length)
    (hb : ∀ (B : Around) (ou : List Env) (s : Shared) (H : Hp) (vs : List V) (Q : VK) (E : XK),
      B.guards = some [] → Room k (B.deeper (envOfC qu sc s.heap.objs.size f cd)) → sp vs H Q E →
      ∃ t, PSs (cxOf CX P w K mg b0 N qu sc f cd B ou s H E) bd t ∧
        t { nx := fun _ H' => Q .non H', rt := Q } (start N vs) H) :
    FnG P w K mg b0 CX (k + 1) f (PySem.W.fnOf nm qu pa bd sc dV kV dc pm an cd ct) ps sp := by
  refine ⟨len, fun B ou s H ar us vs Q E hg hr e0 hbn r hsp => ?_⟩
  have kIn : K.In s.heap := e0.mod.kin.keeps fun b o e => (e0.bs b o e).1
  have nol : s.heap.NoLimit := e0.mod.nolimit.keeps fun b o e => (e0.bs b o e).1
  refine codeAny_call_function hr.depth (kIn _ _ lk) rfl S.co S.gen rfl (PySem.W.codeRec_of kIn hcd) (hbn _ _ _ _ ?_)
  refine wpAny_newFunctionEnv_cells S.kind (fun y hy => ?_) fun env he s1 x => ?_
  · obtain ⟨n, v⟩ := y
    rcases S.par n (List.of_mem_zip hy).1 with q | q
    · exact .inl q
    · exact .inr ⟨q, PySem.W.cellsFrom_some _ _ _ (.inl q)⟩
  subst he
  refine ⟨nol.keeps x.toInCall.keep, codeAny_func ?_⟩
  obtain ⟨t, ht, hq⟩ := hb B ou s H vs Q E hg (hr.deeper _) hsp
  have I := inv_start (CX := CX) (E := E) S hr.hd e0 (len _ _ _ _ hsp) r x
  refine wpAny_mono (ht.run [] s1 (start N vs) H _ I hq) (fun fl s' hs => ?_) fun _ _ hs => hs
  match fl, hs with
  | .ret u, ⟨v, σ', H', J, rv, q⟩ => exact ⟨v, H', J.os, J.bare, J.base, J.hok, rv, q⟩
  | .next, ⟨σ', H', J, q⟩ => exact ⟨V.non, H', J.os, J.bare, J.base, J.hok, rfl, q⟩
  | .brk, ⟨_, _, _, q⟩ => exact False.elim q
  | .cont, ⟨_, _, _, q⟩ => exact False.elim q
theorem FunG.ok {x qu : Str} {st : Stmt} {f : Addr} {fd : FuncData} {N ps : List Str} {k : Nat} {sp : Sp}
    (F : Fun K x qu st f fd) (S : FnScope N ps (defScope st)) (len : ∀ vs H Q E, sp vs H Q E → vs.length = ps.length)
    (hb : ∀ (cd : Value) (B : Around) (ou : List Env) (s : Shared) (H : Hp) (vs : List V) (Q : VK) (E : XK),
      (B.deeper (envOfC qu (defScope st) s.heap.objs.size f cd)).guards = some [] →
      Room k (B.deeper (envOfC qu (defScope st) s.heap.objs.size f cd)) → sp vs H Q E →
      ∃ t, PSs (cxOf CX0 P w K mg b0 N qu (defScope st) f cd B ou s H E).nox (defBody st) t ∧
        t { nx := fun _ H' => Q .non H', rt := Q } (start N vs) H) :
    FnG P w K mg b0 CX0 (k + 1) f fd ps sp := by
  obtain ⟨oc, od, kV, dc, pm, an, cd, ct, sl, rfl, lk, hcd⟩ := F.ex
  refine fnG_of lk hcd S len fun B ou s H vs Q E hg hr hsp => ?_
  obtain ⟨t, h, q⟩ := hb cd B ou s H vs Q E hg hr hsp
  exact ⟨t, h.nox, q⟩
end
/-! ### the law's own call -/
theorem lawG {P : Program} {w : World} {K : PySem.W.Frag} {mg mb : Str → Option Value} {CX : CXT} {k : Nat}
    {fa a : Addr} {fd : FuncData} {x : Str} {sp : Sp} {z : Shared} {vs : List Value} {ns : List Int}
    (KX : K.In z.heap) (hns : z.heap.Ns mainGlobals mg) (hb : z.heap.Ns builtinsNs mb)
    (hbb : ∀ x : Str, x ≠ "__name__" → mb x = bootBuiltins x) (hlim : z.heap.NoLimit) (hg : z.gens = #[])
    (ha : z.heap.get? a = some { cls := .type "list", data := .seq vs.toArray }) (hi : IntsAre vs ns)
    (hl : ns.length ≤ sizeLine) (hr : Room k callerA)
    (F : ∀ b0 : Heap, K.In b0 → b0.Ns mainGlobals mg → FnG P w K mg b0 CX k fa fd [x] sp)
    (hbind : ∀ (s : Shared) (u : Value), BindsTo s fd ⟨[u], []⟩ [(x, u)])
    (hsp : ∀ H : Hp, Only H → SqL K H a (ns.map V.int) → sp [.ref a] H (fun v _ => v = .bl true) fun _ _ _ => False)
    (hCX : ∀ H e s', CX [] H z (fun _ _ _ => False) e s' → False) :
    codeAny (model P w) callerA (.call (.ref fa) ⟨[.ref a], []⟩)
      (fun r s' => r = .ok (.ret (.bool true)) ∧ OldK z.heap s'.heap ∧ s'.os = z.os ∧ AllBare s'.gens) z := by
  have rv := vals_ints hi
  have lenV := hi.length
  have core : ∀ H : Hp, Only H → SqL K H a (ns.map V.int) → HOk P w H z.heap → (∀ b, H b ≠ none → b = a) →
      (H a ≠ none → K.lookup a = none) → codeAny (model P w) callerA (.call (.ref fa) ⟨[.ref a], []⟩)
        (fun r s' => r = .ok (.ret (.bool true)) ∧ OldK z.heap s'.heap ∧ s'.os = z.os ∧ AllBare s'.gens) z := by
    intro H hO hS hok hA hK
    have notr : ∀ {b : Addr} {o : Obj} {es : Array DictEntry} {ep : Nat}, z.heap.get? b = some o →
        o.data = .dict es ep → H b = none := fun {b o es ep} e d => by
      cases q : H b with
      | none => rfl
      | some u =>
        obtain rfl : b = a := hA b (fun n => by rw [q] at n; cases n)
        rw [ha] at e
        cases e
        cases (show Data.seq vs.toArray _ = Data.dict es ep from d)
    have nsK : ∀ {b : Addr} {m : Str → Option Value}, z.heap.Ns b m → (hidT z.heap H).Ns b m :=
      fun {b m} ⟨o, es, ep, e, d, r⟩ => ⟨o, es, ep, hidT_get e (notr e d), d, r⟩
    have hKb : K.In (hidT z.heap H) := fun b o e => hidT_get (KX b o e) (by
      cases q : H b with
      | none => rfl
      | some u =>
        obtain rfl : b = a := hA b (fun n => by rw [q] at n; cases n)
        rw [hK (fun n => by rw [q] at n; cases n)] at e
        cases e)
    have hM : Mod K mg (hidT z.heap H) :=
      ⟨hKb, nsK hns, ⟨mb, nsK hb, hbb⟩, let ⟨mc, h1, h2⟩ := hlim; ⟨mc, nsK h1, h2⟩⟩
    have e0 : Env0 P w K mg (hidT z.heap H) callerA [] z H :=
      ⟨rfl, hM, fun b o e => of_hidT e, Nat.le_of_eq (hidT_size _ _), trivial,
        fun b h => absurd (show b ∈ ([] : List Addr) from h) (List.not_mem_nil), hok, .of_eq hg⟩
    refine codeAny_mono ((F _ hKb (nsK hns)).run callerA [] z H ⟨[.ref a], []⟩ [.ref a] [.ref a] _ _ rfl hr e0
      (hbind z (.ref a)) (.cons rfl .nil) (hsp H hO hS)) fun r s' h => ?_
    match r, h with
    | .error e, h => exact (hCX H e s' h).elim
    | .ok .next, h => exact False.elim h
    | .ok .brk, h => exact False.elim h
    | .ok .cont, h => exact False.elim h
    | .ok (.ret u), ⟨v, H', os, bare, un, hok', r', q⟩ =>
      have qv : v = .bl true := q
      subst qv
      obtain rfl : u = Value.bool true := r'
      refine ⟨rfl, OldK.of_keep fun b o e => ?_, os, bare⟩
      cases q : H b with
      | none => exact un.keep b o e q (fun m => absurd (show b ∈ ([] : List Addr) from m) List.not_mem_nil) (by simp)
      | some u =>
        rcases hO b with m | ⟨ob, xs, m⟩
        · rw [q] at m
          cases m
        · have e1 := (hok b _ m).1
          rw [e] at e1
          cases e1
          exact (hok' b _ (un.frzs b _ _ m)).1
  cases hk : K.lookup a with
  | some o =>
    have e := KX a o hk
    rw [ha] at e
    cases e
    exact core (fun _ => none) (fun _ => .inl rfl)
      (.inr ⟨_, vs.toArray, _, hk, rfl, rfl, rfl, by rw [List.size_toArray, lenV]; exact hl, by simpa using rv⟩)
      (fun b u m => by cases (show (none : Option HO) = some u from m)) (fun b m => absurd rfl m) fun m => absurd rfl m
  | none =>
    refine core (fun b => if b = a then some (.frz { cls := .type "list", data := .seq vs.toArray } (.lst (ns.map V.int))) else none)
      (fun b => ?_) (.inl (.inr ⟨{ cls := .type "list", data := .seq vs.toArray }, if_pos rfl⟩)) (fun b u m => ?_) (fun b m => ?_) fun _ => hk
    · by_cases h : b = a
      · exact .inr ⟨_, _, if_pos h⟩
      · exact .inl (if_neg h)
    · by_cases h : b = a
      · cases (if_pos h).symm.trans m
        subst h
        exact ⟨ha, by rw [List.length_map]; exact hl, vs, _, rv, ha⟩
      · cases (if_neg h).symm.trans m
    · by_cases h : b = a
      · exact h
      · exact absurd (if_neg h) m
theorem walkG {l : PySem.W.OpenLaw} {n k : Nat} {q : Program} {loose : List Str}
    {XP : (Str → Option Value) → Heap → Prop} {YP : World → Heap → Prop} {d : DefRec} {K : Params → PySem.W.Frag}
    {sp : World → Sp} {x : Str} (hn : l.most = some n) (hn2 : n ≤ sizeLine) (hdf : d.params.defaults = [])
    (hr : Room k callerA) (hY : ∀ (w : World) (h : Heap), YP w h → (K w.params).In h)
    (F : ∀ (w : World) (mg : Str → Option Value) (fa : Addr) (h : Heap), (K w.params).In h → h.Ns mainGlobals mg →
      mg d.name = some (.ref fa) → ∃ fd : FuncData, (∀ (s : Shared) (u : Value), BindsTo s fd ⟨[u], []⟩ [(x, u)]) ∧
        ∀ b0 : Heap, (K w.params).In b0 → b0.Ns mainGlobals mg → FnG l.prog w (K w.params) mg b0 CX0 k fa fd [x] (sp w))
    (hsp : ∀ (w : World) (H : Hp) (a : Addr) (ns : List Int), ns.length ≤ n → Only H →
      SqL (K w.params) H a (ns.map V.int) → sp w [.ref a] H (fun v _ => v = .bl true) fun _ _ _ => False) :
    PySem.W.WalkO q loose XP YP l.row.toRowW d [] (fun f vs => PySem.call f vs) := by
  refine Att.attach_call hn hdf fun w _ z mg mb fa o pm cd dc a vs ns G Y _ _ _ hmg ho hi hlen hg => ?_
  obtain ⟨fd, hb, hF⟩ := F w mg fa _ (hY w _ Y) G.T.g hmg
  exact lawG (hY w _ Y) G.T.g G.T.b G.T.builtins G.T.nolimit hg ho hi (Nat.le_trans hlen hn2) hr hF hb
    (fun H hO hS => hsp w H a ns hlen hO hS) fun _ _ _ m => m
/-! ### repr of data at any depth -/
/-- a list or a tuple that can be written out -/
structure Shows (d : PyData) : Prop where
  disp : isDisplay d = true
  show_ : d.showable = true
  nodict : d.hasDict = false
  deep : d.depth ≤ 30
  size : d.shown.length ≤ sizeLine
section
variable {X : Cx}
theorem call_reprD (hg : X.A.guards = some []) (hu : X.A.units + 64 < cLine) :
    CallR X (.builtin "repr") (fun xs H Q => ∃ x d, xs = [x] ∧ Dp X.K H x d ∧ Shows d ∧ Q (.str d.shown) H) := by
  intro pins s σ H xs us Q I r h
  obtain ⟨x, d, rfl, hd, S, q⟩ := h
  obtain ⟨u, rfl, ru⟩ := vals1 r
  obtain ⟨as, rd⟩ := Dp.reads I d x u hd ru
  obtain ⟨a, rfl⟩ := isRef_of_reads rd S.disp
  have hdp := S.deep
  refine repr_of_reads' rd S.show_ (PyData.noDict_hsm S.nodict) hg (by omega) (fun _ _ e => e) (fun h' t tk hk => ?_) S.size
  exact ⟨.str _, H, I.kept hk, ⟨_, rfl⟩, q⟩
end
end TA
set_option maxHeartbeats 2000000
namespace TA
open PySem PySem.Spec PyProof.Rows L2
/-! ### sorted of a list of rows of ints -/
theorem each_vals {β : Type} {g : β → V} : ∀ {bs : List β} {us : List Value}, Vals (bs.map g) us → PySem.W.EachIs (fun u b => RelV (g b) u) us bs
  | [], _, r => by
    cases r
    exact .nil
  | b :: bs, _, r => by
    cases (show Vals (g b :: bs.map g) _ from r) with
    | cons r1 r2 => exact .cons r1 (each_vals r2)
theorem vals_each {β : Type} {g : β → V} : ∀ {bs : List β} {us : List Value}, PySem.W.EachIs (fun u b => RelV (g b) u) us bs → Vals (bs.map g) us
  | _, _, .nil => .nil
  | _, _, .cons h t => .cons h (vals_each t)
/-- x before y, as rows -/
abbrev rowLe {β : Type} (k : β → List Int) : β → β → Bool := fun p q => decide (k p ≤ k q)
def rSortR (K : PySem.W.Frag) : List V → Hp → VK → Prop := fun vs H Q => ∃ (a : Addr) (bs : List (V × List Int)),
  vs = [V.ref a] ∧ SqL K H a (bs.map (·.1)) ∧ (∀ b ∈ bs, ∃ c, b.1 = .ref c ∧ SqL K H c (b.2.map V.int)) ∧
  ∀ p, H p = none → Q (.ref p) (upd H p (.lst ((bs.mergeSort (rowLe (·.2))).map (·.1))))
theorem dpAll_ints (K : PySem.W.Frag) (H : Hp) : ∀ ns : List Int, DpAll K H (ns.map V.int) (ns.map PyData.int)
  | [] => .nil
  | n :: ns => .cons (.int n) (dpAll_ints K H ns)
theorem cr_sortR {X : Cx} (hu : X.A.units + 64 < cLine) : CallR X (.builtin "sorted") (rSortR X.K) := by
  intro pins s σ H vs us Q I r h
  obtain ⟨a, bs, rfl, hs, hx, q⟩ := h
  obtain ⟨its, rv, hl, hz⟩ := I.list hs
  obtain ⟨u, rfl, ru⟩ := vals1 r
  obtain rfl : u = Value.ref a := ru
  have e := each_vals (g := fun b : V × List Int => b.1) rv
  have er : PySem.W.EachIs (fun v (b : V × List Int) => ∃ as, Reads s.heap v (.list (b.2.map .int)) as) its bs :=
    (PySem.W.each_mem e).mono fun v b hb => by
      obtain ⟨rb, mb⟩ := hb
      obtain ⟨c, e1, sq⟩ := hx b mb
      exact Dp.reads I _ b.1 v (by rw [e1]; exact .lst sq (dpAll_ints _ _ _)) rb
  have hbl : bs.length = its.length := by
    have z := rv.length
    rw [List.length_map] at z
    exact z
  refine PySem.W.sorted_data (enc := fun b : V × List Int => .list (b.2.map .int)) (R := fun u (b : V × List Int) => RelV b.1 u)
    hl.isList e er (PySem.W.AllAlike.of fun b b' => ?_) (PySem.W.Sortable.others fun b => ⟨(by intro z; cases z), fun _ => (by intro z; cases z)⟩)
    (by rw [hbl, ← rv.length]; exact hz) (fun b _ => ?_) fun out hlen eo => ?_
  · show PySem.W.alike _ _ = true
    simp only [PySem.W.alike]
    exact PySem.W.alike_ints _ _
  · have hd : (PyData.list (b.2.map .int)).depth = 1 + PyData.depthAll (b.2.map .int) := by simp only [PyData.depth]; omega
    rw [hd, PySem.W.depth_ints]
    omega
  · rw [PySem.W.dataLe_rows (fun b : V × List Int => b.2)] at eo
    have rr := vals_each (g := fun b : V × List Int => b.1) eo
    have hd : s.heap.objs.size ≤ s.heap.objs.size + 1 := Nat.le_succ _
    obtain ⟨n, hn⟩ := sortedAll_at s.heap its out.toArray
    refine ⟨.ref (s.heap.objs.size + 1), upd H (s.heap.objs.size + 1) (.lst ((bs.mergeSort (rowLe (·.2))).map (·.1))), I.laid (t' := s.toks) (fun b o e => sortedAll_old e) hd ⟨?_, out, n, rr, hn⟩, rfl, q _ (I.hok.fresh hd)⟩
    rw [List.length_map, List.length_mergeSort, hbl, ← rv.length]
    exact hz
/-! ### min and max of a tuple of ints -/
theorem alikeAll_int (ns : List Int) : PySem.W.AlikeAll (ns.map PyData.int) := by
  refine ⟨fun x hx y hy => ?_, fun x hx => ?_⟩
  · obtain ⟨a, _, rfl⟩ := List.mem_map.mp hx
    obtain ⟨b, _, rfl⟩ := List.mem_map.mp hy
    simp [PySem.W.alike]
  · obtain ⟨a, _, rfl⟩ := List.mem_map.mp hx
    intro z
    cases z
theorem reads_int {h : Heap} {v : Value} {n : Int} {as : List Addr} (r : Reads h v (.int n) as) : RelV (.int n) v := by
  cases r with
  | int _ t => exact ⟨t, rfl⟩
def rMinT (K : PySem.W.Frag) : List V → Hp → VK → Prop := fun vs H Q => ∃ (a : Addr) (n : Int) (ns : List Int), vs = [.ref a] ∧ SqT K H a ((n :: ns).map V.int) ∧ Q (.int (ns.foldl min n)) H
def rMaxT (K : PySem.W.Frag) : List V → Hp → VK → Prop := fun vs H Q => ∃ (a : Addr) (n : Int) (ns : List Int), vs = [.ref a] ∧ SqT K H a ((n :: ns).map V.int) ∧ Q (.int (ns.foldl max n)) H
section
variable {X : Cx}
theorem call_minT (hc : X.calm = true) (hu : X.A.units + 64 < cLine) : CallR X (.builtin "min") (rMinT X.K) := by
  intro pins s σ H vs us Q I r h
  obtain ⟨a, n, ns, rfl, hs, q⟩ := h
  obtain ⟨its, rv, ht, _⟩ := I.tuple hs
  rw [Vals.ref1 r]
  obtain ⟨as, rd⟩ := Dp.readsAll I _ _ its (dpAll_ints X.K H (n :: ns)) rv
  refine PySem.W.min_tuple_data (I.ok.hd hc) ht rd (alikeAll_int (n :: ns)) ?_ fun i v h' tk bs _ r' hk => ?_
  · rw [show (PyData.int n :: ns.map PyData.int) = (n :: ns).map PyData.int from rfl, PySem.W.depth_ints]
    omega
  · rw [PySem.W.minD_ints] at r'
    exact ⟨.int _, H, I.kept hk, reads_int r', q⟩
theorem call_maxT (hc : X.calm = true) (hu : X.A.units + 64 < cLine) : CallR X (.builtin "max") (rMaxT X.K) := by
  intro pins s σ H vs us Q I r h
  obtain ⟨a, n, ns, rfl, hs, q⟩ := h
  obtain ⟨its, rv, ht, _⟩ := I.tuple hs
  rw [Vals.ref1 r]
  obtain ⟨as, rd⟩ := Dp.readsAll I _ _ its (dpAll_ints X.K H (n :: ns)) rv
  refine PySem.W.max_tuple_data (I.ok.hd hc) ht rd (alikeAll_int (n :: ns)) ?_ fun i v h' tk bs _ r' hk => ?_
  · rw [show (PyData.int n :: ns.map PyData.int) = (n :: ns).map PyData.int from rfl, PySem.W.depth_ints]
    omega
  · rw [PySem.W.maxD_ints] at r'
    exact ⟨.int _, H, I.kept hk, reads_int r', q⟩
end
end TA
set_option maxHeartbeats 2000000
namespace TA
open PySem PySem.Spec PyProof.Rows L2
/-! ### data that can be written out, and compared -/
structure Fit (d : PyData) (w dp : Nat) : Prop where
  show_ : d.showable = true
  nodict : d.hasDict = false
  short : d.leavesShort 100 = true
  lay : d.canLay0 = true
  wt : d.weight ≤ w
  dpt : d.depth ≤ dp
structure FitAll (ds : List PyData) (w dp : Nat) : Prop where
  show_ : PyData.showableAll ds = true
  nodict : PyData.hasDictAll ds = false
  short : PyData.leavesShortAll 100 ds = true
  lay : PyData.canLayAll0 ds = true
  wt : PyData.weightAll ds ≤ w
  dpt : PyData.depthAll ds ≤ dp
theorem Fit.up {d : PyData} {w w' dp dp' : Nat} (h : Fit d w dp) (hw : w ≤ w') (hd : dp ≤ dp') : Fit d w' dp' := ⟨h.show_, h.nodict, h.short, h.lay, Nat.le_trans h.wt hw, Nat.le_trans h.dpt hd⟩
theorem FitAll.up {d : List PyData} {w w' dp dp' : Nat} (h : FitAll d w dp) (hw : w ≤ w') (hd : dp ≤ dp') : FitAll d w' dp' := ⟨h.show_, h.nodict, h.short, h.lay, Nat.le_trans h.wt hw, Nat.le_trans h.dpt hd⟩
theorem log2_lt {n k : Nat} (hk : 0 < k) (h : n < 2 ^ k) : n.log2 < k := by
  by_cases z : n = 0
  · rw [z]
    simpa using hk
  · exact (Nat.log2_lt z).mpr h
theorem fit_int {i : Int} {k : Nat} (k0 : 0 < k) (hk : k ≤ 300) (h : i.natAbs < 2 ^ k) : Fit (.int i) k 0 := by
  have l := log2_lt k0 h
  refine ⟨?_, rfl, ?_, rfl, ?_, Nat.le_refl _⟩
  · simp only [PyData.showable, decide_eq_true_eq]
    omega
  · simp only [PyData.leavesShort, decide_eq_true_eq]
    have h2 : i.natAbs < 10 ^ 99 := Nat.lt_of_lt_of_le h (Nat.le_trans (Nat.pow_le_pow_right (by decide) hk) (by decide +kernel))
    have e := int_text_length_le10 (k := 99) (by decide) h2
    show (Str.ofString (toString i)).length ≤ 100
    rw [PySem.ofString_length]
    exact e
  · simp only [PyData.weight]
    split <;> omega
theorem fit_none : Fit .none 0 0 := ⟨rfl, rfl, rfl, rfl, Nat.le_refl _, Nat.le_refl _⟩
theorem fit_bool (b : Bool) : Fit (.bool b) 0 0 := ⟨rfl, rfl, rfl, rfl, Nat.le_refl _, Nat.le_refl _⟩
theorem fit_nil : FitAll [] 0 0 := ⟨rfl, rfl, rfl, rfl, Nat.le_refl _, Nat.le_refl _⟩
theorem fit_cons {d : PyData} {ds : List PyData} {w w' dp : Nat} (h : Fit d w dp) (t : FitAll ds w' dp) : FitAll (d :: ds) (w + 1 + w') dp := by
  refine ⟨?_, ?_, ?_, ?_, ?_, ?_⟩
  · simp only [PyData.showableAll, h.show_, t.show_, Bool.and_self]
  · simp only [PyData.hasDictAll, h.nodict, t.nodict, Bool.or_self]
  · simp only [PyData.leavesShortAll, h.short, t.short, Bool.and_self]
  · simp only [PyData.canLayAll0, h.lay, t.lay, Bool.and_self]
  · have h1 := h.wt
    have h2 := t.wt
    simp only [PyData.weightAll]
    omega
  · have h1 := h.dpt
    have h2 := t.dpt
    simp only [PyData.depthAll]
    omega
theorem fit_list {ds : List PyData} {w dp : Nat} (h : FitAll ds w dp) : Fit (.list ds) w (dp + 1) := by
  have h1 := h.dpt
  refine ⟨by simpa only [PyData.showable] using h.show_, by simpa only [PyData.hasDict] using h.nodict, by simpa only [PyData.leavesShort] using h.short, by simpa only [PyData.canLay0] using h.lay, by simpa only [PyData.weight] using h.wt, ?_⟩
  simp only [PyData.depth]
  omega
theorem fit_tuple {ds : List PyData} {w dp : Nat} (h : FitAll ds w dp) : Fit (.tuple ds) w (dp + 1) := by
  have h1 := h.dpt
  refine ⟨by simpa only [PyData.showable] using h.show_, by simpa only [PyData.hasDict] using h.nodict, by simpa only [PyData.leavesShort] using h.short, by simpa only [PyData.canLay0] using h.lay, by simpa only [PyData.weight] using h.wt, ?_⟩
  simp only [PyData.depth]
  omega
theorem fit_map {α : Type} {g : α → PyData} {w dp : Nat} : ∀ {l : List α}, (∀ x ∈ l, Fit (g x) w dp) → FitAll (l.map g) ((w + 1) * l.length) dp
  | [], _ => (fit_nil).up (Nat.zero_le _) (Nat.zero_le _)
  | x :: l, h => by
    have t := fit_map (l := l) fun y hy => h y (List.mem_cons_of_mem _ hy)
    refine (fit_cons (h x List.mem_cons_self) t).up ?_ (Nat.le_refl _)
    rw [List.length_cons, Nat.mul_succ]
    omega
theorem Fit.shows {d : PyData} {w dp : Nat} (h : Fit d w dp) (hd : isDisplay d = true) (hw : w ≤ 160000) (hp : dp ≤ 30) : Shows d := by
  refine ⟨hd, h.show_, h.nodict, Nat.le_trans h.dpt hp, ?_⟩
  have h1 := PyData.shown_le 100 (by decide) d h.short
  have h2 := h.wt
  rw [sizeLine_eq]
  omega
theorem Fit.shaped {d : PyData} {w dp : Nat} (h : Fit d w dp) (hp : dp ≤ 64) : SeqAt.shaped d = true := by
  unfold SeqAt.shaped
  rw [h.lay, decide_eq_true (Nat.le_trans h.dpt hp)]
  rfl
/-! ### rows of ints as data -/
abbrev rowD (ns : List Int) : PyData := .list (ns.map .int)
theorem eqv_int (a b : Int) : PyData.eqv (.int a) (.int b) = decide (a = b) := by
  simp only [PyData.eqv]
  by_cases h : a = b
  · rw [h]; simp
  · rw [decide_eq_false h]; simpa using h
theorem eqvAll_int : ∀ xs ys : List Int, PyData.eqvAll (xs.map .int) (ys.map .int) = decide (xs = ys)
  | [], [] => by simp [PyData.eqvAll]
  | [], _ :: _ => by simp [PyData.eqvAll]
  | _ :: _, [] => by simp [PyData.eqvAll]
  | x :: xs, y :: ys => by
    show PyData.eqvAll (.int x :: xs.map .int) (.int y :: ys.map .int) = _
    rw [PyData.eqvAll, eqvAll_int xs ys, eqv_int]
    by_cases h : x = y
    · subst h
      simp
    · rw [decide_eq_false h, decide_eq_false (fun e => h (List.cons.inj e).1)]
      rfl
theorem eqv_row (xs ys : List Int) : PyData.eqv (rowD xs) (rowD ys) = decide (xs = ys) := by
  simp only [PyData.eqv]
  exact eqvAll_int xs ys
end TA
set_option maxHeartbeats 2000000
/-! Generator expressions over the layer: the element is any expression of the block. -/
namespace TA
open PySem PySem.Spec PyProof.Rows L2
theorem over_gx {A : Around} {elt : Expr} {gens : List Comprehension} {scope : Scope} {pos : Pos} {it acc : Value} {cenv : Env} :
    A.over (.compLoop (.GeneratorExp elt gens scope pos) 0 it acc cenv) [] = A.deeper cenv := by
  first
    | rfl
    | (obtain ⟨hd, d, fr, gs, u⟩ := A; simp [Around.over, Around.deeper, marksOver, frameCount, unitsOf, envsOf, guardsOf, pushEnvs, pushGuards, Code.envs, Code.env?, Code.isFrame, Code.guards, Code.isGuard, Code.weight, Code.frames, Code.isCreation, Code.isCaller, Code.cUnits])
theorem over_gs {A : Around} {elt : Expr} {gens : List Comprehension} {scope : Scope} {pos : Pos} {it acc : Value} {cenv : Env} :
    A.over (.compStart (.GeneratorExp elt gens scope pos) 0 it acc cenv) [] = A.deeper cenv := by
  first
    | rfl
    | (obtain ⟨hd, d, fr, gs, u⟩ := A; simp [Around.over, Around.deeper, marksOver, frameCount, unitsOf, envsOf, guardsOf, pushEnvs, pushGuards, Code.envs, Code.env?, Code.isFrame, Code.guards, Code.isGuard, Code.weight, Code.frames, Code.isCreation, Code.isCaller, Code.cUnits])
/-- the scope of a generator expression within a def: its own names by slot, none of them a cell -/
structure GxOk (N : List Str) (sc scope : Scope) (own : List (Str × Nat)) : Prop where
  blk : BlkOk N sc scope own
  co : scope.isCoroutine = false
  cell : ∀ y ∈ scope.names, y.2 ≠ .cell
  dot : scope.names.lookup (".0" : Str) = some NameKind.local
def gxC (N : List Str) (sc scope : Scope) (own : List (Str × Nat)) : Bool :=
  blkC N sc scope own && !scope.isCoroutine && scope.names.all (fun y => !(y.2 == .cell)) && (scope.names.lookup (".0" : Str) == some NameKind.local)
theorem gxOk_by {N : List Str} {sc scope : Scope} {own : List (Str × Nat)} (h : gxC N sc scope own = true) : GxOk N sc scope own := by
  unfold gxC at h
  simp only [Bool.and_eq_true, List.all_eq_true, Bool.not_eq_true', beq_iff_eq] at h
  obtain ⟨⟨⟨h1, h2⟩, h3⟩, h4⟩ := h
  refine ⟨blkOk_by h1, h2, fun y hy e => ?_, h4⟩
  have := h3 y hy
  rw [e] at this
  exact absurd this (by decide)
/-- the context of a generator's frame: it was made at s, its iterator's objects at fp; A: where it is woken -/
abbrev gxCx (X : Cx) (A : Around) (s : Shared) (H : Hp) (cenv : Env) (fp : List Addr) (pn : List (Addr × Obj)) : Cx :=
  { X with A := A.deeper cenv, s_0 := s, H_0 := H, env := cenv, outer := X.stack, stack := cenv :: X.stack, ex := fp, fn := fun _ => false, calm := true, pn := pn, xe := fun _ _ => False }
section
variable {X : Cx} {pins : List (Addr × Obj)} {σ : L2.St} {H : Hp} {s : Shared}
abbrev gxEnv (X : Cx) (scope : Scope) (C : Addr) (code : Value) : Env := genEnv scope (cloFrom X.env.cells scope.names []) C code builtinsNs X.env
theorem gx_start {scope : Scope} {own : List (Str × Nat)} {fp : List Addr} {A : Around} {code itv : Value} {s2 : Shared} {pn pw : List (Addr × Obj)} (I : Inv X pins σ H s) (ok : GxOk X.N X.env.scope scope own) (hN : X.N.Nodup) (hfp : ∀ b ∈ fp, FpOk X pins H b ∧ b < s.heap.objs.size)
    (hd : A.handled = none) (hfr : A.frames = some X.stack) (hos : s2.os = s.os) (hb : AllBare s2.gens) (hns : s2.heap.Ns s.heap.objs.size (fun y => if y = ".0" then some itv else none)) (kp : ∀ b o, s.heap.get? b = some o → s2.heap.get? b = some o)
    (hpn : ∀ p ∈ pn ++ pw, s2.heap.get? p.1 = some p.2 ∧ s.heap.objs.size < p.1 ∧ ∀ v, p.2.data ≠ .cell v) :
    Inv (gxCx X A s H (gxEnv X scope s.heap.objs.size code) fp pn) pw (wipe σ (own.map (·.2))) H s2 := by
  have hfree : ∀ y ∈ scope.names, y.2 = .free → ∃ c, X.env.cells.lookup y.1 = some c := fun y hy e => by
    rcases ok.blk.free y hy e with k | k
    · exact I.ok.has _ (.inl k)
    · exact I.ok.has _ (.inr k)
  have cm : ∀ {y c}, (y, c) ∈ cloFrom X.env.cells scope.names [] → X.env.cells.lookup y = some c ∧ c < s.heap.objs.size := fun {y c} hm => by
    rcases cloFrom_mem hm with hm | ⟨h1, rfl⟩
    · cases hm
    · obtain ⟨c, hc⟩ := hfree _ h1 rfl
      rw [hc]
      obtain ⟨w, z⟩ := I.cell _ _ hc
      exact ⟨rfl, z.lt⟩
  have mem : ∀ {y c}, (cloFrom X.env.cells scope.names []).lookup y = some c → X.env.cells.lookup y = some c ∧ c < s.heap.objs.size := fun {y c} e => cm (PySem.mem_of_lookup e)
  have look : ∀ {y}, scope.names.lookup y = some .free → ∃ c, (cloFrom X.env.cells scope.names []).lookup y = some c ∧ X.env.cells.lookup y = some c := fun {y} hl => by
    obtain ⟨c', e'⟩ := mem_lookup (cloFrom_has (cells := X.env.cells) (acc := []) (PySem.mem_of_lookup hl))
    exact ⟨c', e', (mem e').1⟩
  have okG : (gxCx X A s H (gxEnv X scope s.heap.objs.size code) fp pn).Ok := by
    refine ⟨I.ok.mod, ok.blk.kind, I.ok.glob, rfl, Nat.le_refl _, fun y z c e1 e2 => I.ok.inj y z c (mem e1).1 (mem e2).1, fun y hy => ?_, fun y c z e => (by cases z), fun _ => hd, Around.frames_deeper hfr, .inr ⟨rfl, rfl⟩,
      fun b hb => ⟨Nat.ne_of_lt (hfp b hb).2, fun y c e z => (hfp b hb).1.2.2.2.2.1 y c (mem e).1 z⟩, I.bs, Nat.le_trans I.ok.bsz I.sz, fun b o e hb => ?_, fun b hb z => ?_, I.stack, I.stkFree⟩
    · have key : ∀ k, scope.names.lookup y = some k → (k = .cell ∨ k = .free) → ∃ c, (cloFrom X.env.cells scope.names []).lookup y = some c := fun k hk hk' => by
        rcases hk' with rfl | rfl
        · exact absurd rfl (ok.cell _ (PySem.mem_of_lookup hk))
        · obtain ⟨c, h1, _⟩ := look hk
          exact ⟨c, h1⟩
      rcases hy with hy | hy
      · exact key _ hy (.inl rfl)
      · exact key _ hy (.inr rfl)
    · rcases (hfp b hb).1.2.2.2.1 with z | z
      · exact I.ok.noex b o e z
      · exact absurd (Nat.lt_of_lt_of_le (Heap.lt_size e) (Nat.le_trans I.ok.bsz z)) (Nat.lt_irrefl _)
    · rcases List.mem_cons.mp (I.stkSub b z) with z | z
      · exact (hfp b hb).1.2.1 z
      · exact (hfp b hb).1.2.2.1 z
  refine ⟨okG, hos, hb, Un.kept kp, ⟨_, hns, fun i y av e1 e2 e3 => ?_⟩, fun y c e => ?_, I.hok.fresh (Nat.le_refl _), fun y c e => I.freeC y c (mem e).1, fun p hp => ?_, I.hok.kept kp, by rw [wipe_length]; exact I.len⟩
  · obtain ⟨e2, hne⟩ := wipe_some e2
    have no : ∀ k, scope.names.lookup y = some k → ¬ (k = .local ∨ k = .cell) := fun k hk hh => by
      rcases ok.blk.own _ (PySem.mem_of_lookup hk) hh with e' | e'
      · obtain ⟨p, hp, hpy⟩ := List.mem_map.mp e'
        have e3 := ok.blk.ix p hp
        have : p.1 = y := hpy
        rw [this] at e3
        exact hne (List.mem_map.mpr ⟨p, hp, nodup_ix hN e3 e1⟩)
      · exact e' (List.mem_of_getElem? e1)
    have hfr : scope.names.lookup y = some .free := by
      have e3 : Vis scope y := e3
      rcases e3 with e3 | e3 | e3
      · exact absurd (.inl rfl) (no _ e3)
      · exact absurd (.inr rfl) (no _ e3)
      · exact e3
    obtain ⟨m, hn, hl⟩ := I.loc
    have hvis : Vis X.env.scope y := (ok.blk.free _ (PySem.mem_of_lookup hfr) rfl).elim (fun k => .inr (.inl k)) (fun k => .inr (.inr k))
    obtain ⟨w, r, q⟩ := hl i y av e1 e2 hvis
    refine ⟨w, r, .inr ⟨.inr hfr, ?_⟩⟩
    obtain ⟨c, h1, h2⟩ := look hfr
    rcases q with ⟨k, _⟩ | ⟨_, c', e', z⟩
    · have k : X.env.scope.names.lookup y = some .local := k
      rcases ok.blk.free _ (PySem.mem_of_lookup hfr) rfl with k' | k' <;> rw [show X.env.scope.names.lookup y = _ from k'] at k <;> cases k
    · rw [h2] at e'
      cases e'
      exact ⟨c, h1, z.keeps kp⟩
  · obtain ⟨w, z⟩ := I.cell y c (mem e).1
    exact ⟨w, z.keeps kp⟩
  · obtain ⟨h1, h2, h3⟩ := hpn p hp
    have hge : s.heap.objs.size ≤ p.1 := Nat.le_of_lt h2
    refine ⟨h1, I.hok.fresh hge, Nat.ne_of_gt h2, fun hm => ?_, h3⟩
    rcases List.mem_cons.mp (I.stkSub p.1 hm) with z | z
    · rw [z] at hge
      exact absurd (Nat.lt_of_lt_of_le I.lt hge) (Nat.lt_irrefl _)
    · exact I.nofs hge z
end
/-! ### the turns -/
/-- what is asked of each turn: W, the items so far -/
def GxTurn (J : It) (g : TG) (tt : TT) (te : TE) (vs : List Nat) (σw : L2.St) (W : Nat → Nat → List V → Hp → Prop) (Qc : List V → Hp → Prop) : Prop :=
  ∀ i m ys H, W i m ys H → (J.stop i H ∧ Qc ys H) ∨ (J.go i H ∧ ∃ Nx : List V → Hp → Prop, (∀ ys' H', Nx ys' H' → ∃ m', m' < m ∧ W (i + 1) m' ys' H') ∧
    ∀ x H', J.yld i H x H' → g x σw H' fun σ2 H2 => wipe σ2 vs = σw ∧ tt σ2 H2 fun b H3 => if b = true then te σ2 H3 fun y H4 => ys.length < sizeLine ∧ Nx (ys ++ [y]) H4 else Nx ys H3)
section
variable {Y : Cx} {A : Around} {elt tg iter : Expr} {ifs : List Expr} {scope : Scope} {gpos : Pos} {fp : List Addr} {it S a : Addr} {gn : Nat} {tn : Nat → Heap → Prop} {J : It} {g : TG} {tt : TT} {te : TE} {vs : List Nat} {σw : L2.St}
theorem gx_loop {W : Nat → Nat → List V → Hp → Prop} {Qc : List V → Hp → Prop} {E : XK} (hA : A.over (.compLoop (.GeneratorExp elt [⟨tg, iter, ifs, 0⟩] scope gpos) 0 (.ref it) .none Y.env) [] = Y.A) (hc : Y.calm = true) (hxe : Y.xe = fun _ _ => False)
    (hco : Y.env.scope.isCoroutine = false) (T : Turn Y.prog Y.w Y.K tg J fp it tn) (pg : PG Y tg g) (pt : PTs Y ifs tt) (pe : PE Y elt te) (apart : Apart Y S) (hpnS : ∀ p ∈ Y.pn, p.1 ≠ S) (hfpS : ∀ b ∈ fp, b ≠ S) (hex : ∀ b ∈ fp, b ∈ Y.ex) (hpf : ∀ p ∈ Y.pn, ∀ b ∈ fp, p.1 ≠ b)
    (hgen : ∀ {pins : List (Addr × Obj)} {σ : L2.St} {H : Hp} {s : Shared}, Inv Y pins σ H s → s.heap.IsGen a gn) (turn : GxTurn J g tt te vs σw W Qc) :
    ∀ (m i : Nat) (ys : List V) (n : Nat) (s₀ s : Shared) (H : Hp), n + ys.length = sizeLine → GI Y S [] ys σw H s → tn i s.heap → (∀ b ∈ fp, H b = none) → W i m ys H →
      Seg (model Y.prog Y.w) A (REnd Y.prog Y.w Y.outer Y.H_0 Y.s_0 Y.ex S a gn Qc E) (YItem Y.s_0 S a gn) n s₀
        (.compLoop (.GeneratorExp elt [⟨tg, iter, ifs, 0⟩] scope gpos) 0 (.ref it) .none Y.env) ((model Y.prog Y.w).den (.compLoop (.GeneratorExp elt [⟨tg, iter, ifs, 0⟩] scope gpos) 0 (.ref it) .none Y.env)) [] s := by
  intro m
  induction m using Nat.strongRecOn with
  | ind m ih =>
    intro i ys n s₀ s H hn hI st nfp w
    have stat : ∀ {acc : Array Value} {c : Nat} {σ' : L2.St} {H' : Hp} {s' : Shared}, Inv Y [(S, lstObj acc c)] σ' H' s' → (∀ b ∈ fp, H' b = none) → ∀ b ∈ fp, FpOk Y [(S, lstObj acc c)] H' b := fun {acc c σ' H' s'} I' hn b hb =>
      ⟨hn b hb, (I'.ok.exf b (hex b hb)).1, I'.ok.exfs b (hex b hb), .inl (hex b hb), fun x c e => (I'.ok.exf b (hex b hb)).2 x c e, fun p hp => by
        rcases List.mem_append.mp hp with z | z
        · exact hpf p z b hb
        · rw [List.mem_singleton.mp z]
          exact fun e => hfpS b hb e.symm⟩
    obtain ⟨acc, cc, rv, I⟩ := hI
    show Seg _ A _ _ _ s₀ _ ((compTurn (.GeneratorExp elt [⟨tg, iter, ifs, 0⟩] scope gpos) 0 (.ref it) .none Y.env).onRaise (leaving Y.env)) [] s
    rw [compTurn_gen, Sem.onRaise_eq_wrap]
    refine seg_bind_wrap (wpAny_standAt ?_)
    rcases turn i m ys H w with ⟨stop, qq⟩ | ⟨go, Nx, hNx, step⟩
    · have td := T.done Y rfl rfl rfl hc i _ s _ H (fun _ _ => False) I (stat I nfp) st stop
      refine seg_bind_wrap ?_
      rw [hA]
      refine thnF td fun r s6 ⟨hr, I6⟩ => ?_
      subst hr
      refine seg_end (.ok .next) (.inl ⟨.inr rfl, H, ys, acc, cc, I6.os, I6.bare, I6.base, I6.hok, ?_, ?_, rv, by omega, qq⟩)
      · exact (I6.pin (S, lstObj acc cc) (List.mem_append_right _ List.mem_cons_self)).2.1
      · exact (I6.pin (S, lstObj acc cc) (List.mem_append_right _ List.mem_cons_self)).1
    · have ti := T.item Y rfl rfl rfl hc i _ s _ H (fun _ _ => False) I (stat I nfp) st go
      refine seg_bind_wrap ?_
      rw [hA]
      refine thnF ti fun r s6 ⟨u, hr, h6⟩ => ?_
      subst hr
      refine seg_bind_wrap ?_
      rw [hA]
      refine thnF h6 fun _ s7 ⟨x, H7, I7, r7, y7, st7, n7⟩ => ?_
      have I7' := I7.pinned (stat I7 n7) (T.obj _ _ st7)
      refine seg_bind_wrap ?_
      rw [hA]
      have pgr := pg.run _ s7 _ H7 x u _ I7' r7 (step x H7 y7)
      rw [hxe] at pgr
      refine thnF pgr fun _ s8 ⟨σ8, H8, I8, hw8, q8⟩ => ?_
      refine seg_bind_wrap ?_
      rw [hA]
      have ptr := pt.run _ s8 σ8 H8 _ I8 q8
      rw [hxe] at ptr
      refine thnF ptr fun b s9 ⟨H9, I9, q9⟩ => ?_
      have fin : ∀ {zs : List V} {s' : Shared} {H' : Hp}, GI Y S (pinsAt fp s7.heap) zs σ8 H' s' → GI Y S [] zs σw H' s' ∧ tn (i + 1) s'.heap ∧ ∀ b ∈ fp, H' b = none := fun {zs s' H'} hG => by
        obtain ⟨acc', cc', rv', I'⟩ := hG
        have pin' : ∀ b ∈ fp, ∀ o, s7.heap.get? b = some o → s'.heap.get? b = some o ∧ H' b = none := fun b hb o e =>
          let z := I'.pin (b, o) (List.mem_append_right _ (List.mem_cons_of_mem _ (mem_pinsAt hb e)))
          ⟨z.1, z.2.1⟩
        have hl : σw.length = σ8.length := by rw [← hw8, wipe_length]
        refine ⟨⟨acc', cc', rv', ((I'.pins_of fun p hp => I'.pin p (List.mem_append_right _ (by rw [List.mem_singleton.mp hp]; exact List.mem_cons_self))).weak hl fun j v e => ?_)⟩, T.keep _ _ _ st7 fun b hb o e => (pin' b hb o e).1, fun b hb => ?_⟩
        · rw [← hw8] at e
          exact (wipe_some e).1
        · obtain ⟨o, e, _⟩ := T.obj _ _ st7 b hb
          exact (pin' b hb o e).2
      cases b with
      | false =>
        simp only [Bool.false_eq_true, if_false] at q9 ⊢
        obtain ⟨m', hm, w'⟩ := hNx ys H9 q9
        obtain ⟨g1, g2, g3⟩ := fin ⟨acc, cc, rv, I9⟩
        exact seg_again rfl (ih m' hm (i + 1) ys n s₀ _ H9 hn g1 g2 g3 w')
      | true =>
        simp only [if_true] at q9 ⊢
        have hy : ∀ v, yieldOut Y.env v = yieldValue v := fun v => by simp only [yieldOut, hco, Bool.false_eq_true, if_false]
        simp only [hy]
        rw [Sem.bind_eq_wrap', Sem.bind_eq_wrap', Sem.wrap_wrap, Sem.wrap_wrap]
        refine seg_wrap ?_
        rw [hA]
        have per := pe.run _ s9 σ8 H9 _ I9 q9
        rw [hxe] at per
        refine thnF per fun z s10 ⟨yv, H10, I10, r10, hlt, nx⟩ => ?_
        obtain ⟨n', rfl⟩ : ∃ n', n = n' + 1 := ⟨n - 1, by omega⟩
        have G10 : GI Y S (pinsAt fp s7.heap) ys σ8 H10 s10 := ⟨acc, cc, rv, I10⟩
        obtain ⟨m', hm, w'⟩ := hNx (ys ++ [yv]) H10 nx
        have hS10 := (I10.pin (S, lstObj acc cc) (List.mem_append_right _ List.mem_cons_self)).1
        have hacc : acc.size = ys.length := by rw [rv.length, Array.length_toList]
        refine seg_at (seg_yield rfl rfl rfl ⟨I10.os, I10.bare, I10.nolimit, hgen I10, ⟨acc, cc, hS10, by omega⟩, fun s'' zz => ?_⟩)
        have G11 := G10.woken hpnS (fun p hp => hfpS _ (of_pinsAt hp).1) apart r10 zz
        obtain ⟨g1, g2, g3⟩ := fin G11
        refine seg_again rfl (ih m' hm (i + 1) (ys ++ [yv]) n' s'' s'' H10 ?_ g1 g2 g3 w')
        rw [List.length_append, List.length_singleton]
        omega
end
end TA
set_option maxHeartbeats 4000000
namespace TA
open PySem PySem.Spec PyProof.Rows L2
open GxR (TabB TabG Tabbed)
/-- what is walked, the def's table at P, each turn; Qc: of all that is handed out -/
def tGx (P : Addr) (wi : TI) (g : TG) (tt : TT) (te : TE) (vs : List Nat) : L2.St → Hp → (List V → Hp → Prop) → Prop := fun σ H Qc =>
  wi σ H fun J H1 => TabG H1 P ∧ ∀ H2, Tabbed P H1 H2 → ∃ W : Nat → Nat → List V → Hp → Prop, (∃ m, W 0 m [] H2) ∧ GxTurn J g tt te vs (wipe σ vs) W Qc
section
variable {X : Cx}
theorem pgen_exp {k : Nat} {c P : Addr} {elt tg iter : Expr} {ifs : List Expr} {scope : Scope} {gpos : Pos} {own : List (Str × Nat)} {wi : TI} {g : TG} {tt : TT} {te : TE} (hr : Room k X.A) (hc : X.calm = true) (hN : X.N.Nodup) (TB : TabB X.base X.mg c P) (hcode : X.env.code = .ref c)
    (ok : GxOk X.N X.env.scope scope own) (hi : PI X tg iter wi)
    (hg : ∀ (A : Around) (s : Shared) (H : Hp) (C : Addr) (cd : Value) (fp : List Addr) (pn : List (Addr × Obj)), PG (gxCx X A s H (gxEnv X scope C cd) fp pn) tg g)
    (ht : ∀ (A : Around) (s : Shared) (H : Hp) (C : Addr) (cd : Value) (fp : List Addr) (pn : List (Addr × Obj)), Room k A → PTs (gxCx X A s H (gxEnv X scope C cd) fp pn) ifs tt)
    (he : ∀ (A : Around) (s : Shared) (H : Hp) (C : Addr) (cd : Value) (fp : List Addr) (pn : List (Addr × Obj)), Room k A → PE (gxCx X A s H (gxEnv X scope C cd) fp pn) elt te)
    (hs : ∀ v, genFold iter X.env v = pure v := by intro _; rfl) : PGen X k (.GeneratorExp elt [⟨tg, iter, ifs, 0⟩] scope gpos) (tGx P wi g tt te (own.map (·.2))) E0 := by
  refine ⟨fun pins s σ H cont I h => ?_⟩
  have hfree : ∀ y ∈ scope.names, y.2 = .free → ∃ c, X.env.cells.lookup y.1 = some c := fun y hy e => by
    rcases ok.blk.free y hy e with k | k
    · exact I.ok.has _ (.inl k)
    · exact I.ok.has _ (.inr k)
  refine wpAny_GeneratorExp_make ok.co (closure_ok hfree) ok.cell ok.dot ok.blk.kind hr.depth ?_ hs
  refine thn (hi.run pins s σ H _ I h) fun xv s1 hx => thn hx fun itv s2 h2 => ?_
  obtain ⟨it, fp, tn, J, H2, e, I2, T, st2, f2, ⟨ps, hP, htr⟩, q⟩ := h2
  subst e
  refine ⟨I2.nolimit, ?_⟩
  have hPs : s2.heap.get? P = some { cls := .none, data := .fields ps } := I2.hok P _ hP
  have hPlt : P < s2.heap.objs.size := Heap.lt_size hPs
  have cd : PySem.W.CodeHd s2.heap c P := TB.code.keeps I2.bk
  have fpP : ∀ b ∈ fp, b ≠ P := fun b hb e => by
    have := (f2 b hb).1
    rw [e, hP] at this
    cases this
  have main : ∀ (code : Value) (h3 : Heap) (tk : Nat) (more : Array Value), Heap.ExtBut P s2.heap h3 → s2.heap.objs.size ≤ h3.objs.size → h3.get? P = some { cls := .none, data := .fields (ps ++ more) } → TriplesOk (ps ++ more).toList →
      wpAny (model X.prog X.w) X.A (builtinsFor X.env.globals X.env.builtins) (fun bi s₄ =>
        ∀ h', h'.Ns s₄.heap.objs.size (fun y => if y = ".0" then some (Value.ref it) else none) → Heap.SameBut s₄.heap.objs.size (s₄.heap.push { cls := .type "frame", data := .dict #[] }) h' →
          (∃ H1 sc ex, Inv X pins σ H1 sc ∧ ExOk X pins ex ∧ GMade X.prog X.w k X.stack H1 sc ex cont E0 (.ref h'.objs.size) { s₄ with
            gens := s₄.gens.push (.fresh (.compStart (.GeneratorExp elt [⟨tg, iter, ifs, 0⟩] scope gpos) 0 (.ref it) .none (genEnv scope (cloFrom X.env.cells scope.names []) s₄.heap.objs.size code bi X.env))),
            toks := s₄.toks + 1 + 1 + 1,
            heap := h'.push { cls := .type "generator", data := .fields #[.int s₄.gens.size 0, .str "<genexpr>" (s₄.toks + 1), .str (X.env.qual ++ "<genexpr>") (s₄.toks + 1 + 1)] } })) X.xe { s2 with heap := h3, toks := tk } := by
    intro code h3 tk more hx hsz hP3 ht3
    obtain ⟨bm, ob, e1, e2, e3, e4, e5, e6, e7, e8⟩ := TB.bm
    have keep3 : ∀ b u, b ≠ P → s2.heap.get? b = some u → h3.get? b = some u := fun b u hb e => hx b u hb e
    refine wpAny_builtinsFor (m := X.mg) (by rw [I2.ok.glob]; exact (I2.mod.glob.keeps I2.bk).extBut hx TB.gP) e1 e2 (keep3 _ _ e4 (I2.bk _ _ e5)) e6 e7 e8 ?_
    intro h' hn' hs'
    -- the def's own state, the table grown
    have Isc : Inv X pins σ (upd H2 P (.tbl (ps ++ more))) { s2 with heap := h3, toks := tk } := by
      have z := GxR.inv_tab (more := more) (h' := h3) (g' := s2.gens) (d' := s2.drawn) (t' := tk) I2 hP keep3 hP3 I2.bare
      exact z
    have tab : Tabbed P H2 (upd H2 P (.tbl (ps ++ more))) := ⟨⟨_, upd_same, ht3⟩, fun b hb => upd_ne hb⟩
    obtain ⟨W, ⟨m0, w0⟩, turn⟩ := q _ tab
    generalize hH1 : upd H2 P (.tbl (ps ++ more)) = H1 at Isc w0
    have fpn : ∀ b ∈ fp, H1 b = none := fun b hb => by rw [← hH1, upd_ne (fpP b hb)]; exact (f2 b hb).1
    have fsz : ∀ b ∈ fp, b < s2.heap.objs.size := fun b hb => by
      obtain ⟨o, e, _⟩ := T.obj _ _ st2 b hb
      exact Heap.lt_size e
    generalize hsc : ({ s2 with heap := h3, toks := tk } : Shared) = sc at Isc hn' hs' ⊢
    have hh3 : sc.heap = h3 := by rw [← hsc]
    have tn3 : tn 0 sc.heap := by
      rw [hh3]
      exact T.keep _ _ _ st2 fun b hb o e => keep3 b o (fpP b hb) e
    have hfp : ∀ b ∈ fp, FpOk X pins H1 b ∧ b < sc.heap.objs.size := fun b hb => ⟨⟨fpn b hb, (f2 b hb).2⟩, by rw [hh3]; exact Nat.lt_of_lt_of_le (fsz b hb) hsz⟩
    have hszp : h'.objs.size = sc.heap.objs.size + 1 := by rw [hs'.1, Heap.size_push]
    have keep' : ∀ b o, sc.heap.get? b = some o → h'.get? b = some o := fun b o e => hs'.extBut b o (Nat.ne_of_lt (Heap.lt_size e)) (Heap.get?_push_of_some _ e)
    generalize hgo : ({ cls := .type "generator", data := .fields #[.int sc.gens.size 0, .str "<genexpr>" (sc.toks + 1), .str (X.env.qual ++ "<genexpr>") (sc.toks + 1 + 1)] } : Obj) = go
    have hgt : (h'.push go).get? h'.objs.size = some go := by
      rw [← hgo]
      exact Heap.get?_push_size _ rfl
    have isg : ∀ {hh : Heap}, hh.get? h'.objs.size = some go → hh.IsGen h'.objs.size sc.gens.size := fun {hh} e => by
      rw [← hgo] at e
      exact ⟨_, _, _, e, rfl, rfl, rfl⟩
    refine ⟨H1, sc, fp, Isc, fun b hb => ⟨(hfp b hb).1.2.2.2.1, (hfp b hb).1.2.1, (hfp b hb).1.2.2.2.2.1, (hfp b hb).1.2.2.2.2.2⟩, ?_⟩
    refine ⟨h'.objs.size, sc.gens.size, _, rfl, by omega, by show _ < (h'.push go).objs.size; rw [Heap.size_push]; exact Nat.lt_succ_self _, isg hgt, Array.getElem?_push_size .., rfl, Isc.bare.push rfl, ?_, fun b o e => Heap.get?_push_of_some _ (keep' b o e), ?_⟩
    · exact Isc.nolimit.keeps fun b o e => Heap.get?_push_of_some _ (keep' b o e)
    · intro A S s9 hrA hfr hS hk9 ⟨c9, hS9⟩ hos9 hb9
      have hS' : h'.objs.size + 1 ≤ S := by
        have z : (h'.push go).objs.size ≤ S := hS
        rw [Heap.size_push] at z
        exact z
      have hSC : (sc.heap.objs.size : Nat) < S := by omega
      have haS : (h'.objs.size : Nat) < S := by omega
      have haC : (sc.heap.objs.size : Nat) < h'.objs.size := by omega
      have kp9 : ∀ b o, sc.heap.get? b = some o → s9.heap.get? b = some o := fun b o e => hk9 b o (Heap.get?_push_of_some _ (keep' b o e))
      have I9 := gx_start (A := A) (code := code) (itv := .ref it) (s2 := s9) (pn := [(h'.objs.size, go)]) (pw := [(S, lstObj #[] c9)]) Isc ok hN hfp hrA.hd hfr hos9 hb9
        ((hn'.push go).keeps fun b o e => hk9 b o e) kp9 (fun p hp => by
          rcases List.mem_append.mp hp with z | z
          · rw [List.mem_singleton.mp z]
            exact ⟨hk9 _ _ hgt, by show sc.heap.objs.size < h'.objs.size; omega, fun v e => by rw [← hgo] at e; cases e⟩
          · rw [List.mem_singleton.mp z]
            exact ⟨hS9, by show sc.heap.objs.size < S; omega, fun v e => by cases e⟩)
      have st9 : tn 0 s9.heap := T.keep _ _ _ tn3 fun b _ o e => kp9 b o e
      have loop := gx_loop (Y := gxCx X A sc H1 (gxEnv X scope sc.heap.objs.size code) fp [(h'.objs.size, go)]) (A := A) (elt := elt) (tg := tg) (iter := iter) (ifs := ifs) (scope := scope) (gpos := gpos) (S := S) (a := h'.objs.size) (gn := sc.gens.size) (E := E0)
        over_gx rfl rfl ok.co T (hg A sc H1 _ code fp _) (ht A sc H1 _ code fp _ hrA) (he A sc H1 _ code fp _ hrA)
        ⟨by show sc.heap.objs.size ≤ S; omega, Nat.ne_of_gt hSC, fun x c e z => by
          obtain ⟨w, zz⟩ := I9.cell x c e
          have e' : (cloFrom X.env.cells scope.names []).lookup x = some c := e
          rcases cloFrom_mem (PySem.mem_of_lookup e') with hm | ⟨h1, h2⟩
          · cases hm
          · obtain ⟨c', hc'⟩ := hfree _ h1 rfl
            have hc2 : X.env.cells.lookup x = some c' := hc'
            rw [hc2] at h2
            have h3 : c = c' := h2
            subst h3
            obtain ⟨w', z'⟩ := Isc.cell x c hc2
            have zl := z'.lt
            rw [z] at zl
            exact absurd (Nat.lt_trans hSC zl) (Nat.lt_irrefl _)⟩
        (fun p hp => by rw [List.mem_singleton.mp hp]; exact Nat.ne_of_lt haS) (fun b hb => Nat.ne_of_lt (Nat.lt_trans (hfp b hb).2 hSC)) (fun b hb => hb)
        (fun p hp b hb => by rw [List.mem_singleton.mp hp]; exact Nat.ne_of_gt (Nat.lt_trans (hfp b hb).2 haC))
        (fun {pins σ H s} J => isg (J.pin (h'.objs.size, go) (List.mem_append_left _ (List.mem_singleton.mpr rfl))).1) turn
        m0 0 [] sizeLine s9 s9 H1 (Nat.add_zero _) ⟨#[], c9, .nil, I9⟩ st9 fpn w0
      show Seg _ A _ _ _ s9 _ ((compStart (.GeneratorExp elt [⟨tg, iter, ifs, 0⟩] scope gpos) 0 (.ref it) .none (gxEnv X scope sc.heap.objs.size code)).onRaise (leaving (gxEnv X scope sc.heap.objs.size code))) [] s9
      unfold compStart
      rw [Sem.onRaise_eq_wrap]
      show Seg _ A _ _ _ s9 _ ((ask >>= _).wrap _ _ _ _) [] s9
      refine seg_bind_wrap (wpAny_askSetting ?_)
      split
      · exact seg_again rfl loop
      · first
          | exact seg_bind_wrap (wpAny_rule (seg_bind_wrap (wpAny_standAt (seg_bind_wrap (T.self _ 0 s9 _ _ st9 (seg_again rfl loop))))))
          | (refine seg_bind_wrap (wpAny_rule ?_); show Seg _ A _ _ _ s9 _ ((standAt iter.pos >>= _).wrap _ _ _ _) [] s9; exact seg_bind_wrap (wpAny_standAt (seg_bind_wrap (T.self _ 0 s9 _ _ st9 (seg_again rfl loop)))))
  cases hf : codeAmong gpos ps.toList with
  | none =>
    refine wpAny_genexprCodeX hcode (cd.code hPs htr) (cd.tab hPs) hf fun c' h' tk hx hge hlt hco' _ htab' _ => ?_
    obtain ⟨o1, vs, f1, tf, fl, tg', inF, tx, tt', op, _, _, _, _, _, _, _, _, _, htr', _⟩ := hco'
    exact main _ h' tk _ hx (Nat.le_trans hge (Nat.le_of_lt hlt)) htab'.2 htr'
  | some cv =>
    refine wpAny_genexprCode_hit hcode (cd.code hPs htr) hf ?_
    exact main cv s2.heap s2.toks #[] (Heap.ExtBut.refl _ _) (Nat.le_refl _) (by rw [Array.append_empty]; exact hPs) (by rw [Array.append_empty]; exact htr)
end
end TA
set_option maxHeartbeats 4000000
namespace TA
open PySem PySem.Spec PyProof.Rows L2
/-- a generator that has not begun is drained into a list -/
theorem collect_gm {P : Program} {w : World} {ou : List Env} {H : Hp} {sc s : Shared} {ex : List Addr} {Qc : List V → Hp → Prop} {B : Around} {k : Nat} {u : Value} {Q' : List Value → Shared → Prop} {E : Value → Shared → Prop}
    (hr : Room k B.in1.in1) (hd : B.depth < recursionLimit) (hfr : B.frames = some ou) (h : GMade P w k ou H sc ex Qc E0 u s)
    (hQ : ∀ (s' : Shared) (acc : Array Value) (H' : Hp) (ys : List V), Vals ys acc.toList → ys.length ≤ sizeLine → s'.os = sc.os → AllBare s'.gens → Un (frs ou) ex H H' sc.heap s'.heap → HOk P w H' s'.heap → Qc ys H' → Q' acc.toList s') :
    wpAny (model P w) B (collect u) Q' E s := by
  obtain ⟨a, g, c, rfl, ha1, ha2, hg, hgs, hos, hb, hl, hkp, wake⟩ := h
  have hSa : s.heap.objs.size ≠ a := Nat.ne_of_gt ha2
  have hcl : cStatics < s.heap.objs.size := let ⟨_, hn, _⟩ := hl; hn.lt
  have hSc : s.heap.objs.size ≠ cStatics := Nat.ne_of_gt hcl
  unfold collect
  refine wpAny_bind (wpAny_runValue (codeAny_builtin F.entry_proto_collect ?_))
  rw [Around.under_plainId F.plain_proto_collect _]
  show wpAny _ B.in1 (newList [] >>= fun l => again (.builtin "list.__iadd__" ⟨[l, .ref a], []⟩)) _ _ s
  refine wpAny_bind (wpAny_newObj_type ?_)
  refine wpAny_pure ⟨plainId_quiet F.plain_list_iadd _, codeAny_builtin F.entry_list_iadd ?_⟩
  rw [Around.under_plainId F.plain_list_iadd _]
  show wpAny _ B.in1 (Builtin.List.listExtendWith (.ref s.heap.objs.size) (.ref a) (.ref s.heap.objs.size)) _ _ _
  have up : ∀ (h : Heap) (f : Obj → Obj), (∀ b o, s.heap.get? b = some o → h.get? b = some o) → ∀ b o, s.heap.get? b = some o → (h.update s.heap.objs.size f).get? b = some o := fun h f q b o e =>
    (Heap.get?_update_other _ _ (Ne.symm (Nat.ne_of_lt (Heap.lt_size e)))).trans (q b o e)
  have k1 : ∀ b o, s.heap.get? b = some o → (s.heap.push { cls := .type "list", data := .seq ([] : List Value).toArray }).get? b = some o := fun b o e => Heap.get?_push_of_some _ e
  have gty : ∀ {h : Heap}, (∀ b o, s.heap.get? b = some o → h.get? b = some o) → h.IsGen a g := fun {h} q => hg.keeps q
  unfold Builtin.List.listExtendWith
  refine wpAny_bind (wpAny_typeOf (Heap.IsGen.typeIs (s := { s with heap := _ }) (gty k1)) ?_)
  have h1 : Builtin.List.listSameRef (.ref s.heap.objs.size) (.ref a) = false := by simp [Builtin.List.listSameRef, hSa]
  have h2 : (Value.type "generator" == Value.type "list") = false := by decide
  have h3 : (Value.type "generator" == Value.type "tuple") = false := by decide
  simp only [h1, h2, h3, Bool.or_false, Bool.false_eq_true, if_false]
  refine wpAny_bind (wpAny_pyIter_gen (s := { s with heap := _ }) (gty k1) ?_)
  refine wpAny_bind (wpAny_holding ?_)
  unfold Builtin.List.listLengthHint
  refine wpAny_bind (wpAny_specialOf (Heap.IsGen.typeIs (s := { s with heap := _ }) (gty k1)) F.gen_no_len ?_)
  show wpAny _ B.in1 (specialOf (Value.ref a) (Str.ofString "__length_hint__") >>= _) _ _ _
  refine wpAny_bind (wpAny_specialOf (Heap.IsGen.typeIs (s := { s with heap := _ }) (gty k1)) F.gen_no_hint ?_)
  refine wpAny_pure ?_
  show wpAny _ B.in1 (rule "list.extend.makes-room" >>= fun _ => Builtin.List.listTouch (.ref s.heap.objs.size) >>= fun _ =>
    again (.builtin "list.extend.loop" ⟨[.ref s.heap.objs.size, .ref a, .ref s.heap.objs.size], []⟩)) _ _ _
  refine wpAny_bind (wpAny_rule ?_)
  have hS1 : (s.heap.push { cls := .type "list", data := .seq ([] : List Value).toArray }).get? s.heap.objs.size = some { cls := .type "list", data := .seq ([] : List Value).toArray } := Heap.get?_push_size _ rfl
  refine wpAny_bind ?_
  show wpAny _ B.in1 (updateSeq s.heap.objs.size (·.push .none) >>= fun _ => updateSeq s.heap.objs.size (·.pop)) _ _ _
  refine wpAny_bind (wpAny_updateSeq hS1 rfl ?_)
  have hS2 := Heap.get?_update_self (Obj.mapSeq (·.push Value.none)) hS1 rfl
  refine wpAny_updateSeq hS2 rfl ?_
  have hS3 := Heap.get?_update_self (Obj.mapSeq (·.pop)) hS2 rfl
  have k3 := up _ (Obj.mapSeq (·.pop)) (up _ (Obj.mapSeq (·.push Value.none)) k1)
  refine wpAny_pure ⟨plainId_quiet F.plain_extend_loop _, ?_⟩
  refine drain (P := P) (w := w) (outer := ou) (H := H) (sc := sc) (ex := ex) (Q := Qc) (EX := E0) (A := B) (g := g) hr.hd hd hSa hSc
    (fun s' acc c' H' ys q1 q2 q3 q4 q5 q6 q7 q8 q9 => ?_) (fun e s' hc => ?_) sizeLine _ (gty k3) (hl.keeps k3) ⟨_, hgs, rfl, ?_⟩
  · show wpAny _ B (load s.heap.objs.size >>= _) _ _ s'
    refine wpAny_bind (wpAny_load q1 ?_)
    exact wpAny_pure (hQ s' acc H' ys q2 q3 q4 q5 q6 q7 q9)
  · obtain ⟨_, _, _, _, _, _, _, _, _, _, _, _, z⟩ := hc
    exact z.elim
  · exact wake _ _ _ hr hfr (Nat.le_refl _) k3 ⟨_, hS3⟩ hos (allBare_setGen (s := { s with heap := _ }) hb rfl)
theorem Room.in4 {k : Nat} {A : Around} (r : Room (k + 1) A) : Room k A.in1.in1.in1.in1 :=
  ⟨r.hd, by have := r.dp; show A.depth + 3 * k + 5 < _; omega, by have := r.un; show A.units + 1 + 1 + 1 + 1 + 16 * k + 200 < _; omega⟩
section
variable {P : Program} {w : World} {ou : List Env} {H : Hp} {sc s : Shared} {ex : List Addr} {Qc : List V → Hp → Prop} {k : Nat} {u : Value} {E : Value → Shared → Prop}
theorem code_tuple_gm {B : Around} {Q1 : Value → Shared → Prop} (hr : Room k B.in1.in1.in1) (hd : B.depth < recursionLimit) (hfr : B.frames = some ou) (h : GMade P w k ou H sc ex Qc E0 u s)
    (hQ : ∀ (s' : Shared) (acc : Array Value) (H' : Hp) (ys : List V), Vals ys acc.toList → ys.length ≤ sizeLine → s'.os = sc.os → AllBare s'.gens → Un (frs ou) ex H H' sc.heap s'.heap → HOk P w H' s'.heap → Qc ys H' →
      Q1 (.ref s'.heap.objs.size) { s' with heap := s'.heap.push { cls := .type "tuple", data := .seq acc } }) :
    codeAny (model P w) B (.call (.builtin "tuple.__new__") ⟨[.type "tuple", u], []⟩) (wants Q1 E) s := by
  have hG := h
  obtain ⟨a, g, c, rfl, _, _, hg, _⟩ := h
  refine codeAny_of_tree ?_
  show wpAny _ B.in1 (do checkBuiltinCall "tuple.__new__" ⟨[.type "tuple", .ref a], []⟩; again (.builtin "tuple.__new__" ⟨[.type "tuple", .ref a], []⟩)) _ _ s
  refine wpAny_bind (wpAny_of_eq (F.newCall_tuple_1 _) (wpAny_pure ⟨plainId_quiet F.plain_tuple_new _, codeAny_builtin F.entry_tuple_new ?_⟩))
  rw [Around.under_plainId F.plain_tuple_new _]
  have hsub := sub_tuple_self
  have hinit := init_tuple_lookup
  have hmh := madeHere_tuple
  have hTI : s.TypeIs (.ref a) "generator" := hg.typeIs
  wp_walk using wpAny_typeOf hTI, collect_gm (B := B.in1) hr hd hfr hG
  intro s' acc H' ys q1 q2 q3 q4 q5 q6 q7
  show wpAny _ _ (Builtin.Tuple.tupleExact acc.toList.toArray >>= fun v => ret v) _ _ _
  unfold Builtin.Tuple.tupleExact
  refine wpAny_bind (wpAny_newObj_type ?_ (by show acc.toList.toArray.size ≤ sizeLine; rw [List.size_toArray, ← q1.length]; exact q2))
  refine wpAny_pure ?_
  have e : acc.toList.toArray = acc := by simp
  rw [e]
  exact hQ s' acc H' ys q1 q2 q3 q4 q5 q6 q7
theorem call_tuple_gm {A : Around} {Q' : Value → Shared → Prop} (hr : Room (k + 1) A) (hfr : A.frames = some ou) (h : GMade P w k ou H sc ex Qc E0 u s)
    (hQ : ∀ (s' : Shared) (acc : Array Value) (H' : Hp) (ys : List V), Vals ys acc.toList → ys.length ≤ sizeLine → s'.os = sc.os → AllBare s'.gens → Un (frs ou) ex H H' sc.heap s'.heap → HOk P w H' s'.heap → Qc ys H' →
      Q' (.ref s'.heap.objs.size) { s' with heap := s'.heap.push { cls := .type "tuple", data := .seq acc } }) :
    wpAny (model P w) A (call (.type "tuple") [u]) Q' E s := by
  have hd := hr.depth
  have hr4 := Room.in4 hr
  obtain ⟨a, g, c, rfl, r⟩ := id h
  refine callType_codes (Q₁ := fun obj s₁ => s₁.TypeIs obj "tuple" ∧ Q' obj s₁) F.called_tuple (F.typeCall_tuple_1 _) F.entry_object_init
    (code_tuple_gm (B := A.in1) hr4 hd hfr h fun s' acc H' ys q1 q2 q3 q4 q5 q6 q7 => ⟨⟨_, Heap.get?_push_size _ rfl, rfl⟩, hQ s' acc H' ys q1 q2 q3 q4 q5 q6 q7⟩) fun obj s₁ h₁ => ?_
  exact ⟨h₁.1, F.args_object_init_2 obj _, object_init_meets F.called_tuple.init.lookup F.called_tuple.made (by decide) P w A.in1 _ s₁ ⟨h₁.1, rfl, h₁.2⟩⟩
end
section
variable {X : Cx} {k : Nat} {p pos : Pos}
/-- behind the draining: what the items' end left -/
theorem Inv.drained0 {pins : List (Addr × Obj)} {σ : L2.St} {H H' : Hp} {sc s' : Shared} {ex : List Addr} (I : Inv X pins σ H sc) (hex : ExOk X pins ex) (os : s'.os = sc.os) (hb : AllBare s'.gens) (un : Un (frs X.stack) ex H H' sc.heap s'.heap) (hok : HOk X.prog X.w H' s'.heap) : Inv X pins σ H' s' :=
  I.call' (ch := ex) os un hok hb hex
def tTupG (tg : TGen) : TE := fun σ H Q => tg σ H fun out H2 => ∀ q, H2 q = none → Q (.ref q) (upd H2 q (.tup out))
/-- tuple(g) -/
theorem pe_tupGx {e : Expr} {tg : TGen} (h : PGen X k e tg E0) (hr : Room (k + 1) X.A) (hg : Gl X "tuple") (hmg : X.mg "tuple" = none)
    (he : starEach [e] X.env = (false, eval e X.env) :: starEach [] X.env := by rfl) : PE X (.Call (.Name "tuple" p) [e] [] pos) (tTupG tg) := by
  refine ⟨fun pins s σ H Q I hq => ?_⟩
  refine wpAny_Call_Name_kw (ld_blt I hg hmg boot_tuple ?_ (by decide) (by decide))
  refine PyProof.Rows.callWith_type1 ?_ he rfl
  rw [he]
  show wpAny _ _ (spliced ((false, eval e X.env) :: backTo pos (starEach [] X.env))) _ _ s
  refine Calls.spliced_cons (thn (h.run pins s σ H _ I hq) fun u s1 ⟨H1, sc, ex, I1, hex, hG⟩ => ?_)
  refine Calls.spliced_nil ?_
  refine call_tuple_gm hr I1.ok.frames hG fun s' acc H' ys q1 q2 q3 q4 q5 q6 q7 => ?_
  have J := Inv.drained0 I1 hex q3 q4 q5 q6
  refine ⟨.ref s'.heap.objs.size, upd H' s'.heap.objs.size (.tup ys), J.laid (t' := s'.toks) (fun b o e => Heap.get?_push_of_some _ e) (Nat.le_refl _) ⟨q2, acc.toList, q1, ⟨_, Heap.get?_push_size _ rfl, rfl, _, by simp; rfl⟩⟩, rfl, q7 _ (J.hok.fresh (Nat.le_refl _))⟩
end
end TA
set_option maxHeartbeats 4000000
namespace TA
open PySem PySem.Spec PyProof.Rows L2
open AutoSeq1 (wpAny_loadPart')
/-! ### enumerate(tuple) -/
theorem meets_enumT (l : Addr) (items : Array Value) (n : Nat) (dct : Option Addr) (sl : Array (Option Value)) :
    Meets (Builtin.«enumerate.__new__» ⟨[.type "enumerate", .ref l], []⟩) (fun _ R s => s.heap.get? l = some { cls := .type "tuple", dict := dct, data := .seq items n, slots := sl } ∧
      R (.ok (.ret (.ref (s.heap.push { cls := .type "tuple_iterator", data := .fields #[.ref l, .int 0 0] }).objs.size)))
        { s with heap := (s.heap.push { cls := .type "tuple_iterator", data := .fields #[.ref l, .int 0 0] }).push { cls := .type "enumerate", data := .fields #[.none, .bool false, .ref s.heap.objs.size, rawInt 0, .none, .none] } }) :=
  .of_wp fun prog w A R s h => by
    obtain ⟨hp, g, d, tk, os⟩ := s
    obtain ⟨hl, h⟩ := h
    have hsub := sub_enumerate
    have hL : Heap.IsTuple (Shared.heap ⟨hp, g, d, tk, os⟩) l items := ⟨_, hl, rfl, n, rfl⟩
    wp_walk using wpAny_loadPart' hl
    refine wpAny_stack_any fun st => wpAny_pure ?_
    split
    · rename_i c _ _ _ _ _
      cases (c == Value.type "enumerate")
      · wp_walk using wpAny_loadPart' hl, wpAny_pyIter_tuple hL
        exact ⟨_, rfl, h⟩
      · wp_walk using wpAny_loadPart' hl, wpAny_pyIter_tuple hL
        exact ⟨_, rfl, h⟩
    · wp_walk using wpAny_loadPart' hl, wpAny_pyIter_tuple hL
      exact ⟨_, rfl, h⟩
theorem call_enumT {prog : Program} {w : World} {A : Around} {E : Value → Shared → Prop} {s : Shared} {l : Addr} {items : Array Value} {Q : Value → Shared → Prop} (hL : s.heap.IsTuple l items)
    (h : ∀ h', IsEnum h' (s.heap.objs.size + 1) s.heap.objs.size 0 .none → h'.IsTupleIter s.heap.objs.size l 0 → h'.objs.size = s.heap.objs.size + 2 →
      (∀ b o, s.heap.get? b = some o → h'.get? b = some o) → Q (.ref (s.heap.objs.size + 1)) { s with heap := h' }) :
    wpAny (model prog w) A (call (.type "enumerate") [.ref l]) Q E s := by
  obtain ⟨⟨c, dct, dt, sl⟩, hl, hc, n, hd⟩ := hL
  replace hc : c = .type "tuple" := hc
  replace hd : dt = .seq items n := hd
  subst hc hd
  refine callType_new F.called_enumerate (by decide) (F.typeCall_enumerate_1 _) (F.newCall_enumerate_1 _) (fun obj => F.args_object_init_2 obj _) F.entry_enumerate_new
    (meets_enumT l items n dct sl) ⟨hl, ?_⟩
  have hz : (s.heap.push { cls := .type "tuple_iterator", data := .fields #[.ref l, .int 0 0] }).objs.size = s.heap.objs.size + 1 := Heap.size_push ..
  show _ ∧ _
  rw [hz]
  have he : IsEnum ((s.heap.push { cls := .type "tuple_iterator", data := .fields #[.ref l, .int 0 0] }).push
      { cls := .type "enumerate", data := .fields #[.none, .bool false, .ref s.heap.objs.size, rawInt 0, .none, .none] }) (s.heap.objs.size + 1) s.heap.objs.size 0 .none := by
    have := Heap.get?_push_size (s.heap.push { cls := .type "tuple_iterator", data := .fields #[.ref l, .int 0 0] })
      (o := { cls := .type "enumerate", data := .fields #[.none, .bool false, .ref s.heap.objs.size, rawInt 0, .none, .none] }) rfl
    rw [hz] at this
    exact this
  exact ⟨⟨_, he, rfl⟩, h _ he ⟨_, Heap.get?_push_of_some _ (Heap.get?_push_size _ rfl), rfl, rfl⟩ (by rw [Heap.size_push, hz]) fun b o x => Heap.get?_push_of_some _ (Heap.get?_push_of_some _ x)⟩
/-- the tuple at a, each item in a new pair -/
def IteT (K : PySem.W.Frag) (a : Addr) : It :=
  ⟨fun i H => ∃ (xs : List V) (x : V), SqT K H a xs ∧ xs[i]? = some x, fun i H v H' => ∃ T x, v = .ref T ∧ H T = none ∧ H' = upd H T (.tup [.int (i : Nat), x]) ∧ ∀ xs, SqT K H a xs → xs[i]? = some x, fun i H => ∃ xs : List V, SqT K H a xs ∧ xs.length ≤ i⟩
theorem turn_enumT {P : Program} {w : World} {K : PySem.W.Frag} {elts : List Expr} {kk : Nat} {tpos : Pos} (a e it : Addr) :
    Turn P w K (.Tuple elts kk tpos) (IteT K a) [e, it] e (fun i h => (∃ old, IsEnum h e it ((i : Nat) : Int) old) ∧ h.IsTupleIter it a i ∧ e ≠ it ∧ a ≠ it) where
  mem := by simp
  obj := fun i h st b hb => by
    obtain ⟨⟨old, he⟩, ⟨o, ho, hc, hd⟩, _⟩ := st
    have e' : b = e ∨ b = it := by simpa using hb
    rcases e' with z | z
    · rw [z]; exact ⟨_, he, fun v q => nomatch q⟩
    · rw [z]; exact ⟨o, ho, fun v q => by rw [hd] at q; cases q⟩
  keep := fun i h h' st k => by
    obtain ⟨⟨old, he⟩, hi, hne⟩ := st
    exact ⟨⟨old, k e (by simp) _ he⟩, hi.at fun o q => k it (by simp) o q, hne⟩
  item := by
    intro X hP hw hK hc i pins s σ H E I hf st hg
    subst hP hw hK
    obtain ⟨⟨old, he⟩, hit, hne, hai⟩ := st
    obtain ⟨xs, x, hq, hx⟩ := hg
    obtain ⟨its, rv, p, hz⟩ := I.tuple hq
    obtain ⟨u, hu, ru⟩ := rv.get hx
    have hel : e < s.heap.objs.size := Heap.lt_size he
    have hil : it < s.heap.objs.size := by obtain ⟨_, q, _⟩ := hit; exact Heap.lt_size q
    have hea : e ≠ a := fun z => by
      obtain ⟨o, q1, q2, _⟩ := id p
      rw [← z, he] at q1
      cases q1
      exact absurd (Value.type.inj q2) (by decide)
    have hlt : i < its.toArray.size := by
      have := (List.getElem?_eq_some_iff.mp hu).1
      simpa using this
    refine wpAny_pyNext_enum_itemD (Draws.tuple (A := X.A.in1) (I.ok.hd hc) it a hai its.toArray) he ⟨hit, p⟩ hlt hne (by simp [hne, hea]) fun u2 h' tk hu2 ho hst' hT hsz hk => ?_
    have eu : u2 = u := by
      have q : its[i]? = some u2 := by simpa using hu2
      rw [hu] at q
      exact (Option.some.inj q).symm
    subst eu
    refine ⟨_, rfl, wpAny_letOwnedTupleGo_enum (s := { s with heap := h', toks := tk + 1 }) ho fun h'' he' sb => ?_⟩
    have hT2 : h''.get? s.heap.objs.size = some { cls := .type "tuple", data := .seq #[.int i tk, u2] } := (sb.2 _ (Nat.ne_of_gt hel)).trans hT
    have new : ObjOk X.prog X.w (upd H s.heap.objs.size (.tup [.int (i : Nat), x])) h'' s.heap.objs.size (.tup [.int (i : Nat), x]) :=
      ⟨by show 2 ≤ sizeLine; decide, [.int i tk, u2], .cons ⟨_, rfl⟩ (.cons ru .nil), ⟨_, hT2, rfl, _, rfl⟩⟩
    have I1 : Inv X pins σ (upd H s.heap.objs.size (.tup [.int (i : Nat), x])) { s with heap := h'', toks := tk + 1 } :=
      I.turnedNew (ch := [e, it]) (fun b ob hb q => (sb.2 b (fun z => hb (by simp [z]))).trans (hk b ob (fun z => hb (by simp [z])) (fun z => hb (by simp [z])) q)) hf (Nat.le_refl _) new
    refine ⟨.ref s.heap.objs.size, _, I1, rfl, ⟨_, x, rfl, I.hok.fresh (Nat.le_refl _), rfl, fun ys hy => by rw [I.tuple_inj hy hq]; exact hx⟩, ⟨⟨u2, ?_⟩, hst'.1.at fun o q => (sb.2 it (Ne.symm hne)).trans q, hne, hai⟩, fun b hb => ?_⟩
    · have e1 : ((i + 1 : Nat) : Int) = (i : Int) + 1 := by omega
      rw [e1]
      exact he'
    · have hb' : b < s.heap.objs.size := by
        have e' : b = e ∨ b = it := by simpa using hb
        rcases e' with z | z
        · rw [z]; exact hel
        · rw [z]; exact hil
      rw [upd_ne (Nat.ne_of_lt hb')]
      exact (hf b hb).1
  done := by
    intro X hP hw hK hc i pins s σ H E I hf st hg
    subst hP hw hK
    obtain ⟨⟨old, he⟩, hit, hne, hai⟩ := st
    obtain ⟨xs, hq, hx⟩ := hg
    obtain ⟨its, rv, p, hz⟩ := I.tuple hq
    obtain ⟨f0, f1, f2, f3, f4, f5⟩ := hf it (by simp)
    have hl := rv.length
    have hTy : s.TypeIs (.ref e) "enumerate" := ⟨_, he, rfl⟩
    unfold pyNext
    refine wpAny_bind (wpAny_attempt (wpAny_callSpecial?_slot (name := Str.ofString "__next__") hTy F.slot_enumerate_next
      (wpAny_call_entry F.slot_enumerate_next hTy F.entry_enumerate_next ?_ (F.args_enumerate_next_1 _))))
    show wpAny _ _ (field (.ref e) 2 >>= _) _ _ _
    refine wpAny_bind (wpAny_field he rfl (x := .ref it) rfl ?_)
    refine wpAny_bind (wpAny_nextOf_tuple_end (A := X.A.in1) (I.ok.hd hc) hit p (by simp; omega) fun h' x eb hx' => ?_)
    obtain ⟨o, ho, hcl⟩ := hx'
    refine wpAny_bind (wpAny_isInstance (T := "StopIteration") (b := true) ⟨o, ho, hcl⟩ isSubtype_stop ?_)
    exact wpAny_pure ⟨rfl, I.turned (t' := s.toks) (fun b o hb q => eb b o hb q) f0 f1 f3 f4 f5⟩
  self := fun A i s Q E st h => let ⟨⟨_, he⟩, _⟩ := st; wpAny_pyIter_enum he h
def iEnumT (K : PySem.W.Frag) (ta : TA) : TI := fun σ H R => ta σ H fun vs H1 => ∃ a xs, vs = [.ref a] ∧ SqT K H1 a xs ∧ R (IteT K a) H1
theorem pi_enumT {X : Cx} {e : Expr} {ta : TA} {p pos tpos : Pos} {elts : List Expr} {kk : Nat} (hg : Gl X "enumerate") (hm : X.mg "enumerate" = none) (ha : PA X [e] ta) (hs : starEach [e] X.env = [(false, eval e X.env)] := by rfl) :
    PI X (.Tuple elts kk tpos) (.Call (.Name "enumerate" p) [e] [] pos) (iEnumT X.K ta) := by
  refine ⟨fun pins s σ H R I h => ?_⟩
  refine Call_ (ld_blt I hg hm boot_enumerate (PyProof.Rows.callWith_type1 (thn (ha.run pos pins s σ H _ I h) fun us s1 ⟨vs, H1, I1, r1, q1⟩ => ?_) hs rfl))
  obtain ⟨a, xs, ex, hq, q⟩ := q1
  subst ex
  cases r1 with
  | cons r rr =>
    cases rr
    cases r
    obtain ⟨its, rv, p', hz⟩ := I1.tuple hq
    have hal : a < s1.heap.objs.size := let ⟨_, q, _⟩ := id p'; Heap.lt_size q
    refine call_enumT p' fun h' he hit hsz hk => wpAny_pyIter_enum he ?_
    have I2 : Inv X pins σ H1 { s1 with heap := h' } := I1.kept (t' := s1.toks) hk
    refine ⟨s1.heap.objs.size + 1, [s1.heap.objs.size + 1, s1.heap.objs.size], _, _, H1, rfl, I2, turn_enumT a (s1.heap.objs.size + 1) s1.heap.objs.size, ⟨⟨.none, he⟩, hit, Nat.succ_ne_self _, Nat.ne_of_lt hal⟩, fun b hb => ?_, q⟩
    have e' : b = s1.heap.objs.size + 1 ∨ b = s1.heap.objs.size := by simpa using hb
    have hle : s1.heap.objs.size ≤ b := by
      rcases e' with z | z
      · rw [z]; exact Nat.le_add_right _ _
      · rw [z]; exact Nat.le_refl _
    exact I1.fpOk hle (I1.hok.fresh hle)
end TA
set_option maxHeartbeats 4000000
namespace TA
open PySem PySem.Spec PyProof.Rows L2
/-! ### t[::-1] of a pair -/
section
variable {prog : Program} {w : World} {A : Around} {E : Value → Shared → Prop} {s : Shared}
theorem slice_back {sl : Addr} {vl vu vs : Value} {Q : Int × Int × Nat → Shared → Prop} (hs : s.heap.IsSliceOf sl vl vu vs) (pl : IsPart vl none) (pu : IsPart vu none) (ps : IsPart vs (some (-1)))
    (h : Q (1, -1, 2) s) : wpAny (model prog w) A (Builtin.Slice.sliceApplied (.ref sl) (pure ((2 : Nat) : Int))) Q E s := by
  obtain ⟨os, hos, hcs, hds⟩ := id hs
  unfold Builtin.Slice.sliceApplied Builtin.Slice.sliceFields
  refine wpAny_bind (wpAny_bind (wpAny_field hos hds (x := vl) rfl (wpAny_bind (wpAny_field hos hds (x := vu) rfl (wpAny_bind (wpAny_field hos hds (x := vs) rfl (wpAny_pure ?_)))))))
  refine wpAny_bind (HT.slicePart_ ps ?_)
  show wpAny _ _ (if ((-1 : Int) == 0) = true then _ else _) _ _ s
  rw [if_neg (by decide)]
  refine wpAny_bind (HT.slicePart_ pl (wpAny_bind (HT.slicePart_ pu (wpAny_bind (wpAny_pure ?_)))))
  exact wpAny_pure h
theorem pair_back {t sl : Addr} {u1 u2 vl vu vs : Value} {Q : Value → Shared → Prop} (ht : IsTup s.heap t #[u1, u2]) (hs : s.heap.IsSliceOf sl vl vu vs) (pl : IsPart vl none) (pu : IsPart vu none) (ps : IsPart vs (some (-1)))
    (h : Q (.ref s.heap.objs.size) { s with heap := s.heap.push { cls := .type "tuple", data := .seq #[u2, u1] } }) : wpAny (model prog w) A (getItem (.ref t) (.ref sl)) Q E s := by
  obtain ⟨os, hos, hcs, hds⟩ := id hs
  have hTs : s.TypeIs (.ref sl) "slice" := ⟨os, hos, hcs⟩
  unfold getItem
  try with_reducible refine wpAny_holding ?_
  first | refine wpAny_bind (wpAny_pure ?_) | skip
  refine wpAny_bind (wpAny_sequenceKey ht.typeIs (by decide) ?_)
  refine wpAny_bind (wpAny_callSpecial?_slot (name := Str.ofString "__getitem__") ht.typeIs PyProof.Rows.slot_tuple_getitem
    (wpAny_call_entry PyProof.Rows.slot_tuple_getitem ht.typeIs PyProof.Rows.entry_tuple_getitem ?_ (PyProof.Rows.args_tuple_getitem _ _)))
  show wpAny _ _ (Builtin.Tuple.tupleItemsOf (.ref t) >>= _) _ _ s
  refine wpAny_bind (PyProof.Rows.tupleItemsOf_ ht ?_)
  refine wpAny_bind (wpAny_typeOf hTs ?_)
  rw [if_pos (by decide)]
  refine wpAny_bind (slice_back hs pl pu ps ?_)
  show wpAny _ _ (if ((1 : Int) == 0 && (-1 : Int) == 1 && (2 : Nat) == 2) = true then _ else _) _ _ s
  rw [if_neg (by decide)]
  have htake : sizeOk (.seq (#[u2, u1] : Array Value)) := by
    show 2 ≤ sizeLine
    decide
  have ep : ((List.range 2).filterMap fun (k : Nat) => (#[u1, u2] : Array Value)[((1 : Int) + (k : Int) * -1).toNat]?).toArray = #[u2, u1] := by rfl
  rw [ep]
  first
    | exact wpAny_bind (m := Builtin.Tuple.tupleExact _) (wpAny_newObj_type (wpAny_pure ⟨_, rfl, wpAny_pure h⟩) htake)
    | exact wpAny_bind (m := Builtin.Tuple.tupleExact _) (wpAny_newObj_type (wpAny_bind (wpAny_pure (wpAny_pure ⟨_, rfl, wpAny_pure h⟩))) htake)
    | exact wpAny_bind (wpAny_bind (m := Builtin.Tuple.tupleExact _) (wpAny_newObj_type (wpAny_pure (wpAny_pure ⟨_, rfl, wpAny_pure h⟩)) htake))
    | exact wpAny_bind (wpAny_bind (m := Builtin.Tuple.tupleExact _) (wpAny_newObj_type (wpAny_pure ⟨_, rfl, wpAny_pure h⟩) htake))
end
section
variable {X : Cx}
def tRevP (K : PySem.W.Frag) (te : TE) : TE := fun σ H Q => te σ H fun x H1 => ∃ a y z, x = .ref a ∧ SqT K H1 a [y, z] ∧ ∀ p, H1 p = none → Q (.ref p) (upd H1 p (.tup [z, y]))
theorem pe_revP {e : Expr} {te : TE} {k : Nat} {p1 p2 p3 pos : Pos} (he : PE X e te) : PE X (.Subscript e (.Slice none none (some (.UnaryOp .USub (.Constant (.int 1) k p1) p2)) p3) pos) (tRevP X.K te) := by
  refine ⟨fun pins s σ H Q I h => ?_⟩
  refine Subscript_ (thn (he.run pins s σ H _ I h) fun v s1 ⟨x, H1, I1, r1, q1⟩ => ?_)
  obtain ⟨a, y, z, ex, hx, q⟩ := q1
  subst ex
  cases r1
  have hst : PO X (some (.UnaryOp .USub (.Constant (.int 1) k p1) p2)) (tPart (tUn (rU fun i => .int (-i)) (tC (.int 1)))) := po_some (pe_un un_neg pe_int)
  refine wpAny_Slice (thn (po_none.run pins s1 σ H1 (fun o H2 => o = none ∧ H2 = H1) I1 ⟨rfl, rfl⟩) fun vl s2 ⟨l, H2, I2, pl, el, e2⟩ => ?_)
  subst el e2
  refine thn (po_none.run pins s2 σ H2 (fun o H3 => o = none ∧ H3 = H2) I2 ⟨rfl, rfl⟩) fun vu s3 ⟨u, H3, I3, pu, eu, e3⟩ => ?_
  subst eu e3
  refine thn (hst.run pins s3 σ H3 (fun o H4 => o = some (-1) ∧ H4 = H3) I3 ⟨1, rfl, -1, rfl, rfl, rfl⟩) fun vs s4 ⟨o, H4, I4, ps, eo, e4⟩ => ?_
  subst eo e4
  have I5 : Inv X pins σ H4 { s4 with heap := s4.heap.push { cls := .type "slice", data := .fields #[vl, vu, vs] } } := I4.kept (t' := s4.toks) fun b ob q => Heap.get?_push_of_some _ q
  obtain ⟨its, r, ht, hz⟩ := I5.tuple hx
  obtain ⟨u1, u2, rfl, ra, rb⟩ := vals2 r
  show wpAny (model X.prog X.w) X.A (subscriptTail e (.Slice none none (some (.UnaryOp .USub (.Constant (.int 1) k p1) p2)) p3) (.ref a) (.ref s4.heap.objs.size)) (EP X pins σ Q) X.xe { s4 with heap := s4.heap.push { cls := .type "slice", data := .fields #[vl, vu, vs] } }
  refine tail_any (ops := [.ref a, .ref s4.heap.objs.size]) ht.typeIs (PyProof.Rows.slot_tuple_getitem.lookup) ?_ (by with_unfolding_all rfl)
  refine pair_back ht (Heap.IsSliceOf.new _ vl vu vs) pl pu ps ?_
  exact ⟨.ref _, _, I5.laid (t' := s4.toks) (o := .tup [z, y]) (fun b ob q => Heap.get?_push_of_some _ q) (Nat.le_refl _) ⟨by show 2 ≤ sizeLine; decide, [u2, u1], .cons rb (.cons ra .nil), IsTup.new _ _⟩, rfl, q _ (I5.hok.fresh (Nat.le_refl _))⟩
end
end TA
set_option maxHeartbeats 4000000
namespace TA
open PySem PySem.Spec PyProof.Rows L2
open GxR (TabB TabG Tabbed)
/-! ### a def that makes generator expressions: its code object is known -/
theorem okC {P : Program} {w : World} {K : PySem.W.Frag} {mg : Str → Option Value} {b0 : Heap} {x qu : Str} {st : Stmt} {f c : Addr} {fd : FuncData} {N ps : List Str} {k : Nat} {sp : Sp} (F : Fun K x qu st f fd) (hc : fd.code = .ref c) (S : FnScope N ps (defScope st))
    (len : ∀ vs H Q E, sp vs H Q E → vs.length = ps.length)
    (hb : ∀ (A : Around) (outer : List Env) (s : Shared) (H : Hp) (vs : List V) (Q : VK) (E : XK), Room k (A.deeper (envOfC qu (defScope st) s.heap.objs.size f (.ref c))) → sp vs H Q E →
      ∃ t, PSs (cxOf CX0 P w K mg b0 N qu (defScope st) f (.ref c) A outer s H E).nox (defBody st) t ∧ t { nx := fun _ H' => Q .non H', rt := Q } (start N vs) H) : FnOk P w K mg b0 CX0 (k + 1) f fd ps sp := by
  obtain ⟨oc, od, kV, dc, pm, an, cdv, ct, osl, rfl, lk, hcd⟩ := F.ex
  cases (show cdv = .ref c from hc)
  refine fn_of lk hcd S len fun A outer s H vs Q E hr hsp => ?_
  obtain ⟨t, h, q⟩ := hb A outer s H vs Q E hr hsp
  exact ⟨t, h.nox, q⟩
theorem tabG_keep {H H' : Hp} {P : Addr} (t : TabG H P) (h : ∀ ps, H P = some (.tbl ps) → H' P = some (.tbl ps)) : TabG H' P := by
  obtain ⟨ps, e, r⟩ := t
  exact ⟨ps, h _ e, r⟩
theorem tabG_new {H : Hp} {P p : Addr} {u : HO} (t : TabG H P) (n : H p = none) : TabG (upd H p u) P := by
  refine tabG_keep t fun ps e => ?_
  rw [upd_ne (ne_of_none e n)]
  exact e
end TA
set_option maxHeartbeats 4000000
/-! The end of a law whose defs make generator expressions: their tables of code objects, and no repr is under way. -/
namespace TA
open PySem PySem.Spec PyProof.Rows L2
open GxR (TabB TabG Tabbed)
/-- what may be tracked at the start: the script, and empty tables -/
def Kinds (K : PySem.W.Frag) (cs : List (Addr × Addr)) (a : Addr) (H : Hp) : Prop :=
  ∀ b u, H b = some u → (b = a ∧ K.lookup a = none ∧ ∃ o xs, u = .frz o (.lst xs)) ∨ (u = .tbl #[] ∧ ∃ p ∈ cs, b = p.2)
theorem lawGT {P : Program} {w : World} {K : PySem.W.Frag} {mg mb : Str → Option Value} {k : Nat}
    {fa a : Addr} {cs : List (Addr × Addr)} {fd : FuncData} {x : Str} {sp : Sp} {z : Shared} {vs : List Value} {ns : List Int}
    (KX : K.In z.heap) (hns : z.heap.Ns mainGlobals mg) (hb : z.heap.Ns builtinsNs mb)
    (hbb : ∀ x : Str, x ≠ "__name__" → mb x = bootBuiltins x) (hlim : z.heap.NoLimit) (hg : z.gens = #[])
    (hC : ∀ p ∈ cs, PySem.W.CodeHd z.heap p.1 p.2 ∧ z.heap.get? p.2 = some (PySem.W.tabObj #[])) (nT : ∀ p ∈ cs, K.lookup p.2 = none)
    (hbm : ∃ (bm : Addr) (ob : Obj), mg "__builtins__" = some (.ref bm) ∧ bm ≠ builtinsNs ∧ z.heap.get? bm = some ob ∧ ob.cls = .type "module" ∧ ob.dict = some builtinsNs ∧ ob.data = .plain)
    (ha : z.heap.get? a = some { cls := .type "list", data := .seq vs.toArray }) (hi : IntsAre vs ns)
    (hl : ns.length ≤ sizeLine) (hr : Room k callerA)
    (F : ∀ b0 : Heap, K.In b0 → b0.Ns mainGlobals mg → (∀ p ∈ cs, TabB b0 mg p.1 p.2) → FnG P w K mg b0 CX0 k fa fd [x] sp)
    (hbind : ∀ (s : Shared) (u : Value), BindsTo s fd ⟨[u], []⟩ [(x, u)])
    (hsp : ∀ H : Hp, (∀ p ∈ cs, TabG H p.2) → SqL K H a (ns.map V.int) → sp [.ref a] H (fun v _ => v = .bl true) fun _ _ _ => False) :
    codeAny (model P w) callerA (.call (.ref fa) ⟨[.ref a], []⟩)
      (fun r s' => r = .ok (.ret (.bool true)) ∧ OldK z.heap s'.heap ∧ s'.os = z.os ∧ AllBare s'.gens) z := by
  have rv := vals_ints hi
  have lenV := hi.length
  have core : ∀ H : Hp, (∀ p ∈ cs, H p.2 = some (.tbl #[])) → SqL K H a (ns.map V.int) → HOk P w H z.heap → Kinds K cs a H → codeAny (model P w) callerA (.call (.ref fa) ⟨[.ref a], []⟩)
        (fun r s' => r = .ok (.ret (.bool true)) ∧ OldK z.heap s'.heap ∧ s'.os = z.os ∧ AllBare s'.gens) z := by
    intro H hH hS hok kinds
    have hT : ∀ p ∈ cs, TabG H p.2 := fun p hp => ⟨#[], hH p hp, True.intro⟩
    -- what is neither a list nor an empty table is not tracked
    have notr : ∀ {b : Addr} {o : Obj}, z.heap.get? b = some o → (∀ us n, o.data ≠ .seq us n) → o.data ≠ .fields #[] → H b = none := fun {b o} e h1 h2 => by
      cases q : H b with
      | none => rfl
      | some u =>
        rcases kinds b u q with ⟨rfl, _⟩ | ⟨_, p, hp, rfl⟩
        · rw [ha] at e
          cases e
          exact absurd rfl (h1 _ _)
        · rw [(hC p hp).2] at e
          cases e
          exact absurd rfl h2
    have dictK : ∀ {b : Addr} {o : Obj} {es : Array DictEntry} {ep : Nat}, z.heap.get? b = some o → o.data = .dict es ep → H b = none := fun {b o es ep} e d =>
      notr e (fun us n m => by rw [d] at m; cases m) (fun m => by rw [d] at m; cases m)
    have nsK : ∀ {b : Addr} {m : Str → Option Value}, z.heap.Ns b m → (hidT z.heap H).Ns b m :=
      fun {b m} ⟨o, es, ep, e, d, r⟩ => ⟨o, es, ep, hidT_get e (dictK e d), d, r⟩
    have hKb : K.In (hidT z.heap H) := fun b o e => hidT_get (KX b o e) (by
      cases q : H b with
      | none => rfl
      | some u =>
        rcases kinds b u q with ⟨rfl, m, _⟩ | ⟨_, p, hp, rfl⟩
        · rw [m] at e; cases e
        · rw [nT p hp] at e; cases e)
    have hM : Mod K mg (hidT z.heap H) :=
      ⟨hKb, nsK hns, ⟨mb, nsK hb, hbb⟩, let ⟨mc, h1, h2⟩ := hlim; ⟨mc, nsK h1, h2⟩⟩
    have TB : ∀ p ∈ cs, TabB (hidT z.heap H) mg p.1 p.2 := fun p hp => by
      obtain ⟨C, hTp⟩ := hC p hp
      refine ⟨?_, ?_, fun m => ?_⟩
      · obtain ⟨o, us, f1, f2, f3, f4, f5, f6, f7, e1, e2, e3, r⟩ := C
        refine ⟨o, us, f1, f2, f3, f4, f5, f6, f7, hidT_get e1 (notr e1 (fun us n m => by rw [e3] at m; cases m) (fun m => ?_)), e2, e3, r⟩
        rw [e3] at m
        cases m
        simp at r
      · obtain ⟨bm, ob, b1, b2, b3, b4, b5, b6⟩ := hbm
        refine ⟨bm, ob, b1, b2, fun q => ?_, fun q => ?_, hidT_get b3 (notr b3 (fun us n m => by rw [b6] at m; cases m) (fun m => by rw [b6] at m; cases m)), b4, b5, b6⟩
        · obtain ⟨o, es, ep, e, hd, _⟩ := hns
          rw [q, e] at b3
          cases b3
          rw [hd] at b6
          cases b6
        · rw [q, hTp] at b3
          cases b3
          cases b6
      · obtain ⟨o, es, ep, e, hd, _⟩ := hns
        rw [m, hTp] at e
        cases e
        cases hd
    have e0 : Env0 P w K mg (hidT z.heap H) callerA [] z H :=
      ⟨rfl, hM, fun b o e => of_hidT e, Nat.le_of_eq (hidT_size _ _), trivial,
        fun b h => absurd (show b ∈ ([] : List Addr) from h) (List.not_mem_nil), hok, .of_eq hg⟩
    refine codeAny_mono ((F _ hKb (nsK hns) TB).run callerA [] z H ⟨[.ref a], []⟩ [.ref a] [.ref a] _ _ rfl hr e0
      (hbind z (.ref a)) (.cons rfl .nil) (hsp H hT hS)) fun r s' h => ?_
    match r, h with
    | .error e, h => exact False.elim h
    | .ok .next, h => exact False.elim h
    | .ok .brk, h => exact False.elim h
    | .ok .cont, h => exact False.elim h
    | .ok (.ret u), ⟨v, H', os, bare, un, hok', r', q⟩ =>
      have qv : v = .bl true := q
      subst qv
      obtain rfl : u = Value.bool true := r'
      have grown : ∀ p ∈ cs, ∃ more : Array Value, s'.heap.get? p.2 = some { cls := .none, data := .fields more } := fun p hp => by
        obtain ⟨more, m⟩ := un.tbls p.2 #[] (hH p hp)
        exact ⟨_, hok' p.2 _ m⟩
      have keep : ∀ b o, z.heap.get? b = some o → (s'.heap.get? b = some o) ∨ ∃ p ∈ cs, b = p.2 := fun b o e => by
        cases q : H b with
        | none => exact .inl (un.keep b o e q (fun m => absurd (show b ∈ ([] : List Addr) from m) List.not_mem_nil) (by simp))
        | some u =>
          rcases kinds b u q with ⟨_, _, o1, xs, m⟩ | ⟨_, p, hp, m⟩
          · rw [m] at q
            have e1 := (hok b _ q).1
            rw [e] at e1
            cases e1
            exact .inl (hok' b _ (un.frzs b _ _ q)).1
          · exact .inr ⟨p, hp, m⟩
      refine ⟨rfl, ⟨fun b o e => ?_, fun b o e => ?_⟩, os, bare⟩
      · rcases keep b o e with m | ⟨p, hp, rfl⟩
        · exact .inl m
        · obtain ⟨more, hm⟩ := grown p hp
          obtain ⟨C, hTp⟩ := hC p hp
          rw [hTp] at e
          cases e
          exact .inr (.inl ⟨(C.tab hTp).isCodeTable, rfl, #[], more, rfl, by rw [Array.empty_append]; exact hm⟩)
      · rcases keep b o e with m | ⟨p, hp, rfl⟩
        · exact ⟨o, m⟩
        · obtain ⟨more, hm⟩ := grown p hp
          exact ⟨_, hm⟩
  have aT : ∀ p ∈ cs, p.2 ≠ a := fun p hp e => by
    have q := (hC p hp).2
    rw [e, ha] at q
    cases (congrArg Obj.data (Option.some.inj q) : Data.seq vs.toArray _ = Data.fields #[])
  have isC : ∀ b, Decidable (∃ p ∈ cs, b = p.2) := fun b => Classical.propDecidable _
  let tb : Hp := fun b => @ite _ (∃ p ∈ cs, b = p.2) (isC b) (some (.tbl #[])) none
  have tb1 : ∀ p ∈ cs, tb p.2 = some (.tbl #[]) := fun p hp => if_pos ⟨p, hp, rfl⟩
  have tb2 : ∀ b u, tb b = some u → u = .tbl #[] ∧ ∃ p ∈ cs, b = p.2 := fun b u m => by
    by_cases h : ∃ p ∈ cs, b = p.2
    · cases (if_pos h).symm.trans m
      exact ⟨rfl, h⟩
    · cases (if_neg h).symm.trans m
  have okT : ∀ b, (∃ p ∈ cs, b = p.2) → z.heap.get? b = some { cls := .none, data := .fields #[] } := fun b ⟨p, hp, e⟩ => by rw [e]; exact (hC p hp).2
  cases hk : K.lookup a with
  | some o =>
    have e := KX a o hk
    rw [ha] at e
    cases e
    refine core tb tb1 (.inr ⟨_, vs.toArray, _, hk, rfl, rfl, rfl, by rw [List.size_toArray, lenV]; exact hl, by simpa using rv⟩) (fun b u m => ?_) (fun b u m => .inr (tb2 b u m))
    obtain ⟨e, h⟩ := tb2 b u m
    rw [e]
    exact okT b h
  | none =>
    refine core (fun b => if b = a then some (.frz { cls := .type "list", data := .seq vs.toArray } (.lst (ns.map V.int))) else tb b)
      (fun p hp => (if_neg (aT p hp)).trans (tb1 p hp)) (.inl (.inr ⟨{ cls := .type "list", data := .seq vs.toArray }, if_pos rfl⟩)) (fun b u m => ?_) (fun b u m => ?_)
    · by_cases h : b = a
      · cases (if_pos h).symm.trans m
        subst h
        exact ⟨ha, by rw [List.length_map]; exact hl, vs, _, rv, ha⟩
      · obtain ⟨e, h'⟩ := tb2 b u ((if_neg h).symm.trans m)
        rw [e]
        exact okT b h'
    · by_cases h : b = a
      · cases (if_pos h).symm.trans m
        exact .inl ⟨h, hk, _, _, rfl⟩
      · exact .inr (tb2 b u ((if_neg h).symm.trans m))
/-- the end: nms, the defs that make generator expressions; cs, their code objects and tables -/
theorem walkGT {l : PySem.W.OpenLaw} {n k : Nat} {q : Program} {loose : List Str}
    {XP : (Str → Option Value) → Heap → Prop} {YP : World → Heap → Prop} {d : DefRec} {K : Params → PySem.W.Frag}
    {x : Str} (nms : List Str) (hn : l.most = some n) (hn2 : n ≤ sizeLine) (hdf : d.params.defaults = [])
    (hr : Room k callerA) (hrec : ∀ nm ∈ nms, ∃ dm, (recsOf q).find? (fun e => e.name == nm) = some dm) (hY : ∀ (w : World) (h : Heap), YP w h → (K w.params).In h)
    (F : ∀ (w : World) (mg : Str → Option Value) (fa : Addr) (h : Heap), (K w.params).In h → h.Ns mainGlobals mg →
      mg d.name = some (.ref fa) → ∃ (fd : FuncData) (cs : List (Addr × Addr)) (sp : Sp), (∀ p ∈ cs, ∃ nm ∈ nms, PySem.W.tabIn (K w.params) nm = some p) ∧ (∀ p ∈ cs, (K w.params).lookup p.2 = none) ∧
        (∀ (s : Shared) (u : Value), BindsTo s fd ⟨[u], []⟩ [(x, u)]) ∧
        (∀ (H : Hp) (a : Addr) (ns : List Int), ns.length ≤ n → (∀ p ∈ cs, TabG H p.2) → SqL (K w.params) H a (ns.map V.int) → sp [.ref a] H (fun v _ => v = .bl true) fun _ _ _ => False) ∧
        ∀ b0 : Heap, (K w.params).In b0 → b0.Ns mainGlobals mg → (∀ p ∈ cs, TabB b0 mg p.1 p.2) → FnG l.prog w (K w.params) mg b0 CX0 k fa fd [x] sp) :
    PySem.W.WalkO q loose XP YP l.row.toRowW d [] (fun f vs => PySem.call f vs) := by
  refine Att.attach_call hn hdf fun w _ z mg mb fa o pm cd dc a vs ns G Y _ _ _ hmg ho hi hlen hg => ?_
  have KX := hY w _ Y
  obtain ⟨fd, cs, sp, ht, nT, hb, hsp, hF⟩ := F w mg fa _ KX G.T.g hmg
  refine lawGT KX G.T.g G.T.b G.T.builtins G.T.nolimit hg (fun p hp => ?_) nT G.T.bmain ho hi (Nat.le_trans hlen hn2) hr hF hb (fun H hT hS => hsp H a ns hlen hT hS)
  obtain ⟨nm, hnm, e⟩ := ht p hp
  obtain ⟨dm, hdm⟩ := hrec nm hnm
  exact PySem.W.tab_of G.T KX hdm e
end TA
set_option maxHeartbeats 4000000
namespace TA
open PySem PySem.Spec PyProof.Rows L2
def topS (i : Nat) : Stmt := PySem.Challenge.pw_treesapart_k11_webs_made.main.body.getD i (.Pass ⟨0, 0, 0, 0⟩)
abbrev sNth : Stmt := topS 15
abbrev sPot : Stmt := topS 16
abbrev sTake : Stmt := topS 17
/-! ### heaps -/
/-- all but what stands at p is as it was -/
def Fro (p : Addr) (H H' : Hp) : Prop := ∀ q o, q ≠ p → H q = some o → H' q = some o
theorem Fro.refl (p : Addr) (H : Hp) : Fro p H H := fun _ _ _ h => h
theorem Fro.trans {p : Addr} {H H1 H2 : Hp} (a : Fro p H H1) (b : Fro p H1 H2) : Fro p H H2 := fun q o n h => b q o n (a q o n h)
theorem Fro.new {p r : Addr} {H H' : Hp} {u : HO} (a : Fro p H H') (n : H' r = none) : Fro p H (upd H' r u) := fun q o m h => by
  rw [upd_ne (ne_of_none (a q o m h) n)]
  exact a q o m h
theorem Fro.at {p : Addr} {H H' : Hp} {u : HO} (a : Fro p H H') : Fro p H (upd H' p u) := fun q o m h => by
  rw [upd_ne m]
  exact a q o m h
theorem Fro.same {p : Addr} {H H' : Hp} (a : Same H H') : Fro p H H' := fun q o _ h => a q o h
/-- a pot of draws -/
def Pot (H : Hp) (p : Addr) : Prop := ∃ a b : Int, H p = some (.lst [.int a, .int b]) ∧ 0 ≤ a ∧ 0 ≤ b ∧ b < 1099511627776
section
variable {P : Program} {w : World} {K : PySem.W.Frag} {mg : Str → Option Value} {b0 : Heap}
theorem scNth : FnScope ["_law_script", "_law_k"] ["_law_script", "_law_k"] (defScope sNth) := ⟨rfl, rfl, rfl, by decide +kernel, rfl, by decide +kernel, by decide +kernel⟩
def spNth (K : PySem.W.Frag) : Sp := fun vs H Q _ => ∃ (a : Addr) (ns : List Int) (k : Nat), vs = [.ref a, .int k] ∧ SqL K H a (ns.map V.int) ∧ Q (.int (ns.getD k 0)) H
theorem ok_nth {f : Addr} {fd : FuncData} {k : Nat} (F : Fun K "_law_nth" "_law_nth" sNth f fd) (ml : mg "len" = none) : FnOk P w K mg b0 CX0 (k + 1) f fd ["_law_script", "_law_k"] (spNth K) := by
  refine F.ok scNth (fun vs H Q E h => ?_) (fun cdv A outer s H vs Q E hr h => ?_)
  · obtain ⟨a, ns, k, rfl, _⟩ := h
    rfl
  · obtain ⟨a, ns, k, rfl, hS, q⟩ := h
    refine ⟨_, pss_one (ps_ret (pe_ifExp (pt_cmpR op_lt (pv 1) (pe_callB call_len_seq (by rfl) ml PySem.boot_len (pa_cons (pv 0) pa_nil)) (nomark _))
      (pe_ix ix_list (pv 0) (pv 1) (fun _ _ => rfl)) pe_int)), ?_⟩
    refine ⟨_, rfl, .ref a, rfl, a, _, rfl, .inl hS, _, _, rfl, rfl, _, rfl, ?_⟩
    rw [List.length_map]
    refine ite2 (fun e => ?_) (fun e => ?_)
    · have hk : k < ns.length := by have := of_decide_eq_true e; omega
      refine ⟨_, rfl, _, rfl, a, _, _, .int ns[k], rfl, rfl, hS, atI_nat (by rw [List.getElem?_map, List.getElem?_eq_getElem hk]; rfl), ?_⟩
      rw [List.getD_eq_getElem?_getD, List.getElem?_eq_getElem hk] at q
      exact q
    · have hk : ns.length ≤ k := by
        rcases Nat.lt_or_ge k ns.length with z | z
        · exact absurd (decide_eq_true (by omega)) e
        · exact z
      rw [List.getD_eq_getElem?_getD, List.getElem?_eq_none hk] at q
      exact q
theorem scPot : FnScope ["_law_script", "_law_k", "_law_cell"] ["_law_script", "_law_k"] (defScope sPot) := ⟨rfl, rfl, rfl, by decide +kernel, rfl, by decide +kernel, by decide +kernel⟩
def spPot (K : PySem.W.Frag) : Sp := fun vs H Q _ => ∃ (a : Addr) (ns : List Int) (k : Nat), vs = [.ref a, .int k] ∧ k < 1000 ∧ SqL K H a (ns.map V.int) ∧
  ∀ p H', H p = none → Same H H' → Pot H' p → Q (.ref p) H'
theorem ok_pot {f fN : Addr} {fd fdN : FuncData} (F : Fun K "_law_pot" "_law_pot" sPot f fd) (FN : Fun K "_law_nth" "_law_nth" sNth fN fdN) (bN : Binds K fdN ["_law_script", "_law_k"] [])
    (gN : mg "_law_nth" = some (.ref fN)) (ml : mg "len" = none) (mx : mg "max" = none) (ma : mg "abs" = none) : FnOk P w K mg b0 CX0 2 f fd ["_law_script", "_law_k"] (spPot K) := by
  have GN : FnOk P w K mg b0 CX0 1 fN fdN ["_law_script", "_law_k"] (spNth K) := ok_nth FN ml
  refine F.ok scPot (fun vs H Q E h => ?_) (fun cdv A outer s H vs Q E hr h => ?_)
  · obtain ⟨a, ns, k, rfl, _⟩ := h
    rfl
  · obtain ⟨a, ns, k, rfl, hk, hS, q⟩ := h
    refine ⟨_, pss_cons (ps_set (i := 2) scPot.nd rfl (.inl rfl) (pe_call GN hr (by rfl) gN FN.kp bN .nil pass0 (pa_cons (pv 0) (pa_cons (pv 1) pa_nil))))
      (pss_one (ps_ret (pe_lst (pa_cons (pe_callB (call_max2 rfl) (by rfl) mx (by decide +kernel) (pa_cons pe_int (pa_cons (pe_op op_sub (pe_callB call_abs (by rfl) ma (by decide +kernel) (pa_cons (pv 2) pa_nil)) (pe_op op_pow pe_int pe_int)) pa_nil)))
        (pa_cons (pe_op op_add (pe_op op_add (pe_op op_mod (pe_callB call_abs (by rfl) ma (by decide +kernel) (pa_cons (pv 2) pa_nil)) pe_int) (pe_op op_mul pe_int (pv 1))) pe_int) pa_nil))))), ?_⟩
    refine ⟨.ref a, rfl, .int k, rfl, a, ns, k, rfl, hS, ?_⟩
    generalize ns.getD k 0 = c
    refine ⟨_, rfl, _, rfl, _, _, rfl, rfl, ⟨by decide, by decide, by decide⟩, _, _, rfl, rfl, _, _, rfl, _, rfl, _, rfl, _, _, rfl, rfl, by show (0:Int) < 2147483563; decide, _, rfl, _, _, rfl, rfl, .inl ⟨by decide, by decide⟩, _, _, rfl, rfl, _, _, rfl, rfl, ?_⟩
    refine ⟨by show 2 ≤ sizeLine; decide, fun p np => q p _ np (fun b o e => by rw [upd_ne (ne_of_none e np)]; exact e) ⟨_, _, upd_same, ?_, ?_, ?_⟩⟩
    · split <;> omega
    · have := Int.emod_nonneg (if c < 0 then -c else c) (b := 2147483563) (by decide); omega
    · have := Int.emod_lt_of_pos (if c < 0 then -c else c) (b := 2147483563) (by decide); omega
end
end TA
set_option maxHeartbeats 4000000
namespace TA
open PySem PySem.Spec PyProof.Rows L2
section
variable {P : Program} {w : World} {K : PySem.W.Frag} {mg : Str → Option Value} {b0 : Heap}
theorem scTake : FnScope ["_law_pot_here", "_law_many", "_law_digit"] ["_law_pot_here", "_law_many"] (defScope sTake) := ⟨rfl, rfl, rfl, by decide +kernel, rfl, by decide +kernel, by decide +kernel⟩
def spTake : Sp := fun vs H Q _ => ∃ (p : Addr) (m : Int), vs = [.ref p, .int m] ∧ 0 < m ∧ m < 1073741824 ∧ Pot H p ∧
  ∀ d H', 0 ≤ d → d < m → Fro p H H' → Pot H' p → Q (.int d) H'
theorem ok_take {f : Addr} {fd : FuncData} {k : Nat} (F : Fun K "_law_take" "_law_take" sTake f fd) (md : mg "divmod" = none) : FnOk P w K mg b0 CX0 (k + 1) f fd ["_law_pot_here", "_law_many"] spTake := by
  refine F.ok scTake (fun vs H Q E h => ?_) (fun cdv A outer s H vs Q E hr h => ?_)
  · obtain ⟨p, m, rfl, _⟩ := h
    rfl
  · obtain ⟨p, m, rfl, h0, h1, ⟨a, b, hp, ha, hb, hb2⟩, q⟩ := h
    refine ⟨_, pss_cons (ps_if (pt_cmpR op_gt (pe_ix ix_list (pv 0) pe_int (fun _ _ => rfl)) pe_int (nomark _))
        (pss_cons (ps_asg (pe_callB call_divmod (by rfl) md (by decide +kernel) (pa_cons (pe_ix ix_list (pv 0) pe_int (fun _ _ => rfl)) (pa_cons (pv 1) pa_nil)))
          (pg_tup rfl (pgs_cons (pg_sub (pv 0) pe_int set_list) (pgs_cons (pg_name (i := 2) scTake.nd rfl (.inl rfl)) pgs_nil))))
        (pss_one (ps_ret (pv 2)))) pss_nil)
      (pss_cons (ps_asg (pe_op op_mod (pe_op op_add (pe_op op_mul (pe_ix ix_list (pv 0) pe_int (fun _ _ => rfl)) pe_int) pe_int) pe_int) (pg_sub (pv 0) pe_int set_list))
      (pss_one (ps_ret (pe_op op_mod (pe_op op_fdiv (pe_op op_mod (pe_op op_mul (pe_ix ix_list (pv 0) pe_int (fun _ _ => rfl)) (pe_ix ix_list (pv 0) pe_int (fun _ _ => rfl))) pe_int) pe_int) (pv 1))))), ?_⟩
    refine ⟨_, rfl, p, _, 0, .int a, rfl, rfl, SqL.of hp, rfl, _, _, rfl, rfl, _, rfl, ite2 (fun e => ?_) (fun e => ?_)⟩
    · have e' := of_decide_eq_true e
      refine ⟨_, rfl, p, _, 0, .int a, rfl, rfl, SqL.of hp, rfl, _, rfl, a, m, rfl, ⟨h0, h1⟩, fun t nt => ?_⟩
      have tp : p ≠ t := ne_of_none hp nt
      refine ⟨t, _, rfl, SqT.of upd_same, rfl, _, _, rfl, _, rfl, p, [.int a, .int b], 0, 0, rfl, rfl, by rw [upd_ne tp]; exact hp, rfl, _, _, rfl, rfl, _, rfl, ?_⟩
      refine q (a % m) _ (Int.emod_nonneg _ (by omega)) (Int.emod_lt_of_pos _ h0) ((Fro.refl p H).new nt).at ⟨a / m, b, upd_same, ?_, hb, hb2⟩
      exact Int.ediv_nonneg ha (by omega)
    · refine ⟨_, rfl, p, _, 1, .int b, rfl, rfl, SqL.of hp, rfl, _, _, rfl, rfl, .inr ⟨by decide, by decide⟩, _, _, rfl, rfl, _, _, rfl, rfl, by show (0 : Int) < 2147483629; decide, _, rfl, p, _, 1, 1, rfl, rfl, hp, rfl, ?_⟩
      have c0 : 0 ≤ (b * 39373 + 7919) % 2147483629 := Int.emod_nonneg _ (by decide)
      have c1 : (b * 39373 + 7919) % 2147483629 < 2147483629 := Int.emod_lt_of_pos _ (by decide)
      refine ⟨_, rfl, p, _, 1, _, rfl, rfl, SqL.of upd_same, rfl, _, rfl, p, _, 1, _, rfl, rfl, SqL.of upd_same, rfl, _, _, rfl, rfl, .inl ⟨Int.lt_of_lt_of_le (by decide) c0, Int.lt_trans c1 (by decide)⟩, _, _, rfl, rfl, by show (0 : Int) < 2147483563; decide,
        _, _, rfl, rfl, ⟨by decide, by decide⟩, _, rfl, _, _, rfl, rfl, h0, ?_⟩
      exact q _ _ (Int.emod_nonneg _ (by omega)) (Int.emod_lt_of_pos _ h0) (Fro.refl p H).at ⟨a, _, upd_same, ha, c0, Int.lt_trans c1 (by decide)⟩
end
end TA
set_option maxHeartbeats 4000000
namespace TA
open PySem PySem.Spec PyProof.Rows L2
/-! ### ties in a heap -/
/-- what is a tuple stays one -/
def TupK (H H' : Hp) : Prop := ∀ t xs, H t = some (.tup xs) → H' t = some (.tup xs)
theorem TupK.same {H H' : Hp} (s : Same H H') : TupK H H' := fun t xs h => s t _ h
theorem TupK.fro {H H' : Hp} {p : Addr} {ys : List V} (hp : H p = some (.lst ys)) (s : Fro p H H') : TupK H H' := fun t xs h => s t _ (ne_of h hp (by intro z; cases z)) h
theorem TupK.lst {H : Hp} {p : Addr} {ys : List V} {u : HO} (hp : H p = some (.lst ys)) : TupK H (upd H p u) := fun t xs h => by
  rw [upd_ne (ne_of h hp (by intro z; cases z))]
  exact h
theorem TupK.new {H : Hp} {p : Addr} {u : HO} (hp : H p = none) : TupK H (upd H p u) := fun t xs h => by
  rw [upd_ne (ne_of_none h hp)]
  exact h
theorem TupK.trans {H H1 H2 : Hp} (a : TupK H H1) (b : TupK H1 H2) : TupK H H2 := fun t xs h => b t xs (a t xs h)
def TieIs (H : Hp) (x : V) (t : Int × Int) : Prop := ∃ a, x = .ref a ∧ H a = some (.tup [.int t.1, .int t.2])
def TiesAt (H : Hp) (xs : List V) (ts : List (Int × Int)) : Prop := Paired (TieIs H) xs ts
theorem TiesAt.mono {H H' : Hp} (k : TupK H H') {xs : List V} {ts : List (Int × Int)} (h : TiesAt H xs ts) : TiesAt H' xs ts := Paired.mapP h fun _ _ ⟨a, e, h⟩ => ⟨a, e, k _ _ h⟩
theorem TiesAt.get {H : Hp} : ∀ {xs : List V} {ts : List (Int × Int)} {i : Nat} {t : Int × Int}, TiesAt H xs ts → ts[i]? = some t → ∃ x, xs[i]? = some x ∧ TieIs H x t
  | _, _, i, t, .nil, e => by simp at e
  | _, _, 0, t, .cons r _, e => by simp at e; subst e; exact ⟨_, rfl, r⟩
  | _, _, i + 1, t, .cons _ r, e => by
    obtain ⟨x, h1, h2⟩ := TiesAt.get (i := i) (t := t) r (by simpa using e)
    exact ⟨x, by simpa using h1, h2⟩
theorem same_new {H : Hp} {p : Addr} {o : HO} (h : H p = none) : Same H (upd H p o) := fun b x e => by
  rw [upd_ne (ne_of_none e h)]
  exact e
theorem take_succ {α : Type} {l : List α} {i : Nat} {x : α} (h : l[i]? = some x) : l.take (i + 1) = l.take i ++ [x] := by
  rw [List.take_add_one, h]
  rfl
theorem paired_snoc {α β : Type} {R : α → β → Prop} : ∀ {l : List α} {m : List β} {x : α} {y : β}, Paired R l m → R x y → Paired R (l ++ [x]) (m ++ [y])
  | _, _, _, _, .nil, h => .cons h .nil
  | _, _, _, _, .cons r t, h => .cons r (paired_snoc t h)
theorem sqT_same {K : PySem.W.Frag} {H H' : Hp} {a : Addr} {xs : List V} (e : Same H H') (h : SqT K H a xs) : SqT K H' a xs := by
  rcases h with (h | ⟨o, h⟩) | h
  · exact .inl (.inl (e _ _ h))
  · exact .inl (.inr ⟨o, e _ _ h⟩)
  · exact .inr h
def PairOk (n : Nat) (t : Int × Int) : Prop := 0 ≤ t.1 ∧ t.1 < n ∧ 0 ≤ t.2 ∧ t.2 < n ∧ t.1 ≠ t.2
theorem Pot.ne {H : Hp} {p q : Addr} (h : Pot H p) (n : H q = none) : q ≠ p := fun e => by
  obtain ⟨a, b, e1, _⟩ := h
  rw [e, e1] at n
  cases n
theorem Pot.tup {H H' : Hp} {p : Addr} (h : Pot H p) (f : Fro p H H') : TupK H H' := by
  obtain ⟨a, b, e, _⟩ := h
  exact TupK.fro e f
theorem Pot.keep {H : Hp} {p q : Addr} {u : HO} (h : Pot H p) (n : p ≠ q) : Pot (upd H q u) p := by
  obtain ⟨a, b, e, r⟩ := h
  exact ⟨a, b, by rw [upd_ne n]; exact e, r⟩
theorem Fro.putAt {p q : Addr} {H H' : Hp} {u : HO} (f : Fro p H H') (n : H q = none) : Fro p H (upd H' q u) := fun r o m h => by
  rw [upd_ne (ne_of_none h n)]
  exact f r o m h
theorem Fro.back {p q : Addr} {H H' : Hp} (f : Fro p H H') (hp : q ≠ p) (n : H' q = none) : H q = none := by
  cases e : H q with
  | none => rfl
  | some o =>
    rw [f q o hp e] at n
    cases n
theorem paired_get {α β : Type} {R : α → β → Prop} : ∀ {l : List α} {m : List β} {i : Nat} {x : α}, Paired R l m → l[i]? = some x → ∃ y, m[i]? = some y ∧ R x y
  | _, _, i, x, .nil, e => by simp at e
  | _, _, 0, x, .cons r _, e => by simp at e; subst e; exact ⟨_, rfl, r⟩
  | _, _, i + 1, x, .cons _ t, e => by
    obtain ⟨y, h1, h2⟩ := paired_get (i := i) (x := x) t (by simpa using e)
    exact ⟨y, by simpa using h1, h2⟩
theorem Pot.new {H : Hp} {p q : Addr} {u : HO} (h : Pot H p) (n : H q = none) : Pot (upd H q u) p := h.keep (h.ne n).symm
theorem same_fro {H H1 H2 : Hp} {p : Addr} (s : Same H H1) (n : H p = none) (f : Fro p H1 H2) : Same H H2 := fun b o h => f b o (ne_of_none h n) (s b o h)
section
variable {K : PySem.W.Frag} {a : Addr} {xs : List V} {g : TG} {tb : TS} {D : Ends} {σ : L2.St} {H : Hp}
theorem for_enumL (Pv : Nat → L2.St → Hp → Prop) (h0 : Pv 0 σ H) (hl : ∀ i σ H, i ≤ xs.length → Pv i σ H → SqL K H a xs)
    (hs : ∀ i x σ H T, xs[i]? = some x → Pv i σ H → H T = none → g (.ref T) σ (upd H T (.tup [.int (i : Nat), x])) fun σ2 H2 => tb { D with nx := Pv (i + 1), ct := Pv (i + 1), bk := D.nx } σ2 H2) (hd : ∀ σ H, Pv xs.length σ H → D.nx σ H) :
    ∃ W : Nat → Nat → L2.St → Hp → Prop, (∃ m, W 0 m σ H) ∧ ∀ i m σ H, W i m σ H →
      ((Ite K a).stop i H ∧ D.nx σ H) ∨ ((Ite K a).go i H ∧ ∃ N : L2.St → Hp → Prop, (∀ σ' H', N σ' H' → ∃ m', m' < m ∧ W (i + 1) m' σ' H') ∧ ∀ x H', (Ite K a).yld i H x H' → g x σ H' fun σ2 H2 => tb { D with nx := N, ct := N, bk := D.nx } σ2 H2) := by
  refine ⟨fun i m σ H => m = xs.length - i ∧ i ≤ xs.length ∧ Pv i σ H, ⟨xs.length, by simp, Nat.zero_le _, h0⟩, ?_⟩
  rintro i m σ H ⟨rfl, hi, p⟩
  have q := hl i σ H hi p
  by_cases hlt : i < xs.length
  · refine .inr ⟨⟨xs, xs[i], q, by simp [hlt]⟩, Pv (i + 1), fun σ' H' p' => ⟨xs.length - (i + 1), by omega, rfl, hlt, p'⟩, fun x H' y => ?_⟩
    obtain ⟨T, y, e1, n, e2, hy⟩ := y
    subst e1 e2
    exact hs i y σ _ T (hy xs q) p n
  · have e : i = xs.length := by omega
    subst e
    exact .inl ⟨⟨xs, q, Nat.le_refl _⟩, hd σ H p⟩
end
section
variable {K : PySem.W.Frag} {a : Addr} {xs : List V} {g : TG} {tb : TS} {D : Ends} {σ : L2.St} {H : Hp}
theorem for_enumT (Pv : Nat → L2.St → Hp → Prop) (h0 : Pv 0 σ H) (hl : ∀ i σ H, i ≤ xs.length → Pv i σ H → SqT K H a xs)
    (hs : ∀ i x σ H T, xs[i]? = some x → Pv i σ H → H T = none → g (.ref T) σ (upd H T (.tup [.int (i : Nat), x])) fun σ2 H2 => tb { D with nx := Pv (i + 1), ct := Pv (i + 1), bk := D.nx } σ2 H2) (hd : ∀ σ H, Pv xs.length σ H → D.nx σ H) :
    ∃ W : Nat → Nat → L2.St → Hp → Prop, (∃ m, W 0 m σ H) ∧ ∀ i m σ H, W i m σ H →
      ((IteT K a).stop i H ∧ D.nx σ H) ∨ ((IteT K a).go i H ∧ ∃ N : L2.St → Hp → Prop, (∀ σ' H', N σ' H' → ∃ m', m' < m ∧ W (i + 1) m' σ' H') ∧ ∀ x H', (IteT K a).yld i H x H' → g x σ H' fun σ2 H2 => tb { D with nx := N, ct := N, bk := D.nx } σ2 H2) := by
  refine ⟨fun i m σ H => m = xs.length - i ∧ i ≤ xs.length ∧ Pv i σ H, ⟨xs.length, by simp, Nat.zero_le _, h0⟩, ?_⟩
  rintro i m σ H ⟨rfl, hi, p⟩
  have q := hl i σ H hi p
  by_cases hlt : i < xs.length
  · refine .inr ⟨⟨xs, xs[i], q, by simp [hlt]⟩, Pv (i + 1), fun σ' H' p' => ⟨xs.length - (i + 1), by omega, rfl, hlt, p'⟩, fun x H' y => ?_⟩
    obtain ⟨T, y, e1, n, e2, hy⟩ := y
    subst e1 e2
    exact hs i y σ _ T (hy xs q) p n
  · have e : i = xs.length := by omega
    subst e
    exact .inl ⟨⟨xs, q, Nat.le_refl _⟩, hd σ H p⟩
end
section
variable {K : PySem.W.Frag} {a : Addr} {xs : List V} {g : TG} {tt : TT} {te : TE} {vs : List Nat} {σw : L2.St} {H2 : Hp} {Qc : List V → Hp → Prop}
theorem gx_list (Pv : Nat → List V → Hp → Prop) (h0 : Pv 0 [] H2) (hl : ∀ i ys H, i ≤ xs.length → Pv i ys H → SqL K H a xs)
    (hs : ∀ i x ys H, xs[i]? = some x → Pv i ys H → g x σw H fun σ2 H2 => wipe σ2 vs = σw ∧ tt σ2 H2 fun b H3 => if b = true then te σ2 H3 fun y H4 => ys.length < sizeLine ∧ Pv (i + 1) (ys ++ [y]) H4 else Pv (i + 1) ys H3)
    (hd : ∀ ys H, Pv xs.length ys H → Qc ys H) : ∃ W : Nat → Nat → List V → Hp → Prop, (∃ m, W 0 m [] H2) ∧ GxTurn (Itl K a) g tt te vs σw W Qc := by
  refine ⟨fun i m ys H => m = xs.length - i ∧ i ≤ xs.length ∧ Pv i ys H, ⟨xs.length, by simp, Nat.zero_le _, h0⟩, ?_⟩
  rintro i m ys H ⟨rfl, hi, p⟩
  have q := hl i ys H hi p
  by_cases hlt : i < xs.length
  · refine .inr ⟨⟨xs, xs[i], q, by simp [hlt]⟩, Pv (i + 1), fun ys' H' p' => ⟨xs.length - (i + 1), by omega, rfl, hlt, p'⟩, fun x H' y => ?_⟩
    obtain ⟨e, y⟩ := y
    subst e
    exact hs i x ys _ (y xs q) p
  · have e : i = xs.length := by omega
    subst e
    exact .inl ⟨⟨xs, q, Nat.le_refl _⟩, hd ys H p⟩
end
section
variable {K : PySem.W.Frag} {a : Addr} {xs : List V} {g : TG} {tt : TT} {te : TE} {vs : List Nat} {σw : L2.St} {H2 : Hp} {Qc : List V → Hp → Prop}
theorem gx_tup (Pv : Nat → List V → Hp → Prop) (h0 : Pv 0 [] H2) (hl : ∀ i ys H, i ≤ xs.length → Pv i ys H → SqT K H a xs)
    (hs : ∀ i x ys H, xs[i]? = some x → Pv i ys H → g x σw H fun σ2 H2 => wipe σ2 vs = σw ∧ tt σ2 H2 fun b H3 => if b = true then te σ2 H3 fun y H4 => ys.length < sizeLine ∧ Pv (i + 1) (ys ++ [y]) H4 else Pv (i + 1) ys H3)
    (hd : ∀ ys H, Pv xs.length ys H → Qc ys H) : ∃ W : Nat → Nat → List V → Hp → Prop, (∃ m, W 0 m [] H2) ∧ GxTurn (Itt K a) g tt te vs σw W Qc := by
  refine ⟨fun i m ys H => m = xs.length - i ∧ i ≤ xs.length ∧ Pv i ys H, ⟨xs.length, by simp, Nat.zero_le _, h0⟩, ?_⟩
  rintro i m ys H ⟨rfl, hi, p⟩
  have q := hl i ys H hi p
  by_cases hlt : i < xs.length
  · refine .inr ⟨⟨xs, xs[i], q, by simp [hlt]⟩, Pv (i + 1), fun ys' H' p' => ⟨xs.length - (i + 1), by omega, rfl, hlt, p'⟩, fun x H' y => ?_⟩
    obtain ⟨e, y⟩ := y
    subst e
    exact hs i x ys _ (y xs q) p
  · have e : i = xs.length := by omega
    subst e
    exact .inl ⟨⟨xs, q, Nat.le_refl _⟩, hd ys H p⟩
end
end TA
set_option maxHeartbeats 4000000
namespace TA
open PySem PySem.Spec PyProof.Rows L2
abbrev sWhole : Stmt := topS 8
abbrev sPlace : Stmt := topS 9
abbrev sPair : Stmt := topS 10
abbrev sSize : Stmt := topS 11
abbrev sRefuse : Stmt := topS 12
section
variable {P : Program} {w : World} {K : PySem.W.Frag} {mg : Str → Option Value} {b0 : Heap}
theorem scWhole : FnScope ["thing"] ["thing"] (defScope sWhole) := ⟨rfl, rfl, rfl, by decide +kernel, rfl, by decide +kernel, by decide +kernel⟩
def spWhole : Sp := fun vs H Q _ => ∃ i : Int, vs = [.int i] ∧ Q (.bl true) H
theorem ok_whole {f : Addr} {fd : FuncData} {k : Nat} (F : Fun K "is_whole" "is_whole" sWhole f fd) (mis : mg "isinstance" = none) (mint : mg "int" = none) (mbo : mg "bool" = none) : FnOk P w K mg b0 CX0 (k + 1) f fd ["thing"] spWhole := by
  refine F.ok scWhole (fun vs H Q E h => ?_) (fun cdv A outer s H vs Q E hr h => ?_)
  · obtain ⟨i, rfl, _⟩ := h
    rfl
  · obtain ⟨i, rfl, q⟩ := h
    refine ⟨_, pss_one (ps_ret (pe_and (pe_callB call_isi (by rfl) mis (by decide +kernel) (pa_cons (pv 0) (pa_cons (pe_bltn (v := .ty "int") (by rfl) mint (by decide +kernel) rfl) pa_nil)))
      (pe_one (pe_not (pe_callB call_isi (by rfl) mis (by decide +kernel) (pa_cons (pv 0) (pa_cons (pe_bltn (v := .ty "bool") (by rfl) mbo (by decide +kernel) rfl) pa_nil))))))), ?_⟩
    refine ⟨_, rfl, .int i, .ty "int", _, _, true, rfl, .ty _, .base (.int i), kit_ty (by decide +kernel), true, rfl, ?_⟩
    refine iteT ?_
    exact ⟨_, rfl, .int i, .ty "bool", _, _, false, rfl, .ty _, .base (.int i), kit_ty (by decide +kernel), false, rfl, q⟩
theorem scPlace : FnScope ["places", "thing"] ["places", "thing"] (defScope sPlace) := ⟨rfl, rfl, rfl, by decide +kernel, rfl, by decide +kernel, by decide +kernel⟩
def spPlace : Sp := fun vs H Q _ => ∃ n i : Int, vs = [.int n, .int i] ∧ 0 ≤ i ∧ i < n ∧ Q (.bl true) H
theorem ok_place {f fW : Addr} {fd fdW : FuncData} {k : Nat} (F : Fun K "is_place" "is_place" sPlace f fd) (FW : Fun K "is_whole" "is_whole" sWhole fW fdW) (bW : Binds K fdW ["thing"] []) (gW : mg "is_whole" = some (.ref fW))
    (mis : mg "isinstance" = none) (mint : mg "int" = none) (mbo : mg "bool" = none) : FnOk P w K mg b0 CX0 (k + 2) f fd ["places", "thing"] spPlace := by
  have GW : FnOk P w K mg b0 CX0 (k + 1) fW fdW ["thing"] spWhole := ok_whole FW mis mint mbo
  refine F.ok scPlace (fun vs H Q E h => ?_) (fun cdv A outer s H vs Q E hr h => ?_)
  · obtain ⟨n, i, rfl, _⟩ := h
    rfl
  · obtain ⟨n, i, rfl, h0, h1, q⟩ := h
    refine ⟨_, pss_one (ps_ret (pe_and (pe_call GW hr (by rfl) gW FW.kp bW .nil pass0 (pa_cons (pv 1) pa_nil)) (pe_one (pe_chain op_le op_lt pe_int (pv 1) (pv 0))))), ?_⟩
    refine ⟨_, rfl, i, rfl, true, rfl, ?_⟩
    refine iteT ⟨_, rfl, 0, i, rfl, rfl, _, rfl, ?_⟩
    rw [decide_eq_true h0]
    refine iteT ⟨_, rfl, i, n, rfl, rfl, ?_⟩
    show Q (.bl (decide (i < n))) H
    rw [decide_eq_true h1]
    exact q
theorem scPair : FnScope ["places", "thing", "a", "b"] ["places", "thing"] (defScope sPair) := ⟨rfl, rfl, rfl, by decide +kernel, rfl, by decide +kernel, by decide +kernel⟩
def spPair : Sp := fun vs H Q _ => ∃ (n : Nat) (x : V) (t : Int × Int), vs = [.int n, x] ∧ TieIs H x t ∧ PairOk n t ∧ Q (.bl true) H
theorem ok_pair {f fP fW : Addr} {fd fdP fdW : FuncData} {k : Nat} (F : Fun K "is_pair" "is_pair" sPair f fd) (FW : Fun K "is_whole" "is_whole" sWhole fW fdW) (bW : Binds K fdW ["thing"] []) (gW : mg "is_whole" = some (.ref fW))
    (FP : Fun K "is_place" "is_place" sPlace fP fdP) (bP : Binds K fdP ["places", "thing"] []) (gP : mg "is_place" = some (.ref fP))
    (mis : mg "isinstance" = none) (mint : mg "int" = none) (mbo : mg "bool" = none) (mtu : mg "tuple" = none) (ml : mg "len" = none) : FnOk P w K mg b0 CX0 (k + 3) f fd ["places", "thing"] spPair := by
  have GP : FnOk P w K mg b0 CX0 (k + 2) fP fdP ["places", "thing"] spPlace := ok_place FP FW bW gW mis mint mbo
  refine F.ok scPair (fun vs H Q E h => ?_) (fun cdv A outer s H vs Q E hr h => ?_)
  · obtain ⟨n, x, t, rfl, _⟩ := h
    rfl
  · obtain ⟨n, x, ⟨t1, t2⟩, rfl, ⟨a, rfl, ha⟩, ⟨p1, p2, p3, p4, p5⟩, q⟩ := h
    refine ⟨_, pss_cons (ps_if (PW.pt (pw_or (pt_not (pt_val (pe_callB call_isi (by rfl) mis (by decide +kernel) (pa_cons (pv 1) (pa_cons (pe_bltn (v := .ty "tuple") (by rfl) mtu (by decide +kernel) rfl) pa_nil)))))
        (pw_or1 (pt_cmpR op_ne (pe_callB call_len_seq (by rfl) ml PySem.boot_len (pa_cons (pv 1) pa_nil)) pe_int (nomark _))))) (pss_one (ps_ret pe_bl)) pss_nil)
      (pss_cons (ps_asg (pv 1) (pg_tup rfl (pgs_cons (pg_name (i := 2) scPair.nd rfl (.inl rfl)) (pgs_cons (pg_name (i := 3) scPair.nd rfl (.inl rfl)) pgs_nil))))
      (pss_one (ps_ret (pe_and (pe_call GP hr (by rfl) gP FP.kp bP .nil pass0 (pa_cons (pv 0) (pa_cons (pv 2) pa_nil))) (pe_and (pe_call GP hr (by rfl) gP FP.kp bP .nil pass0 (pa_cons (pv 0) (pa_cons (pv 3) pa_nil))) (pe_one (pe_cmpR op_ne (pv 2) (pv 3) (nomark _)))))))), ?_⟩
    refine ⟨_, rfl, .ref a, .ty "tuple", _, _, true, rfl, .ty _, .base (.tup ha), kit_ty (by decide +kernel), true, rfl, ?_⟩
    refine iteF ?_
    refine ⟨_, rfl, a, _, rfl, .inr (SqT.of ha), rfl, _, rfl, ?_⟩
    refine iteF ?_
    refine ⟨_, rfl, a, _, rfl, SqT.of ha, rfl, _, _, rfl, _, _, rfl, rfl, ?_⟩
    refine ⟨_, rfl, _, rfl, (n : Int), t1, rfl, p1, p2, true, rfl, ?_⟩
    refine iteT ⟨_, rfl, _, rfl, (n : Int), t2, rfl, p3, p4, true, rfl, ?_⟩
    refine iteT ⟨_, rfl, _, rfl, rfl, ?_⟩
    have e : decide (V.int t1 = V.int t2) = false := decide_eq_false fun z => p5 (V.int.inj z)
    rw [e]
    exact q
end
end TA
set_option maxHeartbeats 4000000
namespace TA
open PySem PySem.Spec PyProof.Rows L2
section
variable {P : Program} {w : World} {K : PySem.W.Frag} {mg : Str → Option Value} {b0 : Heap}
abbrev nRefuse : List Str := ["places", "pairs", "most", "at", "pair"]
theorem scRefuse : FnScope nRefuse ["places", "pairs", "most"] (defScope sRefuse) := ⟨rfl, rfl, rfl, by decide +kernel, rfl, by decide +kernel, by decide +kernel⟩
abbrev nSize : List Str := ["places"]
theorem scSize : FnScope nSize ["places"] (defScope sSize) := ⟨rfl, rfl, rfl, by decide +kernel, rfl, by decide +kernel, by decide +kernel⟩
def spSize : Sp := fun vs H Q _ => ∃ n : Nat, vs = [.int n] ∧ 1 ≤ n ∧ n ≤ 9 ∧ Q .non H
theorem ok_size {f fW : Addr} {fd fdW : FuncData} {k : Nat} (F : Fun K "refuse_size" "refuse_size" sSize f fd) (FW : Fun K "is_whole" "is_whole" sWhole fW fdW) (bW : Binds K fdW ["thing"] []) (gW : mg "is_whole" = some (.ref fW)) {t9 : Tok} (g9 : mg "MOST_PLACES" = some (.int 9 t9))
    (mis : mg "isinstance" = none) (mint : mg "int" = none) (mbo : mg "bool" = none) : FnOk P w K mg b0 CX0 (k + 2) f fd ["places"] spSize := by
  have GW : FnOk P w K mg b0 CX0 (k + 1) fW fdW ["thing"] spWhole := ok_whole FW mis mint mbo
  refine F.ok scSize (fun vs H Q E h => ?_) (fun cdv A outer s H vs Q E hr h => ?_)
  · obtain ⟨n, rfl, _⟩ := h
    rfl
  · obtain ⟨n, rfl, h1, h9, q⟩ := h
    have hr1 := hr.mono (j := k + 1) (by omega)
    refine ⟨_, pss_one (ps_if (PW.pt (pw_or (pt_not (pt_val (pe_call GW hr1 (by rfl) gW FW.kp bW .nil pass0 (pa_cons (pv 0) pa_nil)))) (pw_or1 (pt_not (pt_chain op_le op_le pe_int (pv 0) (pe_glob (v := .int 9) (by rfl) g9 ⟨t9, rfl⟩)))))) (pss_one ps_never) pss_nil), ?_⟩
    refine ⟨_, rfl, (n : Int), rfl, true, rfl, iteF ?_⟩
    refine ⟨_, rfl, 1, (n : Int), rfl, rfl, _, rfl, ?_⟩
    rw [decide_eq_true (show (1 : Int) ≤ n by omega)]
    refine iteT ⟨(n : Int), 9, rfl, rfl, _, rfl, ?_⟩
    rw [decide_eq_true (show (n : Int) ≤ 9 by omega)]
    exact iteF q
def SeqIs (H : Hp) (l : Addr) (xs : List V) : Prop := H l = some (.lst xs) ∨ H l = some (.tup xs)
def spRefuse : Sp := fun vs H Q _ => ∃ (n : Nat) (l : Addr) (xs : List V) (ts : List (Int × Int)), vs = [.int n, .ref l, .int 30] ∧ 1 ≤ n ∧ n ≤ 9 ∧ SeqIs H l xs ∧ TiesAt H xs ts ∧ (∀ t ∈ ts, PairOk n t) ∧ ts.length ≤ 30 ∧
  ∀ H', Same H H' → Q .non H'
theorem TiesAt.at {H : Hp} : ∀ {xs : List V} {ts : List (Int × Int)} {i : Nat} {x : V}, TiesAt H xs ts → xs[i]? = some x → ∃ t, ts[i]? = some t ∧ TieIs H x t
  | _, _, i, t, .nil, e => by simp at e
  | _, _, 0, t, .cons r _, e => by simp at e; subst e; exact ⟨_, rfl, r⟩
  | _, _, i + 1, t, .cons _ r, e => by
    obtain ⟨x, h1, h2⟩ := TiesAt.at (i := i) (x := t) r (by simpa using e)
    exact ⟨x, by simpa using h1, h2⟩
theorem ok_refuse {f fA fP fW : Addr} {fd fdA fdP fdW : FuncData} {k : Nat} (F : Fun K "refuse_layout" "refuse_layout" sRefuse f fd) (FW : Fun K "is_whole" "is_whole" sWhole fW fdW) (bW : Binds K fdW ["thing"] []) (gW : mg "is_whole" = some (.ref fW))
    (FP : Fun K "is_place" "is_place" sPlace fP fdP) (bP : Binds K fdP ["places", "thing"] []) (gP : mg "is_place" = some (.ref fP))
    (FA : Fun K "is_pair" "is_pair" sPair fA fdA) (bA : Binds K fdA ["places", "thing"] []) (gA : mg "is_pair" = some (.ref fA)) {fS : Addr} {fdS : FuncData} (FS : Fun K "refuse_size" "refuse_size" sSize fS fdS) (bS : Binds K fdS ["places"] []) (gS : mg "refuse_size" = some (.ref fS)) {t9 : Tok} (g9 : mg "MOST_PLACES" = some (.int 9 t9))
    (mis : mg "isinstance" = none) (mint : mg "int" = none) (mbo : mg "bool" = none) (mtu : mg "tuple" = none) (ml : mg "len" = none) (men : mg "enumerate" = none) : FnOk P w K mg b0 CX0 (k + 4) f fd ["places", "pairs", "most"] spRefuse := by
  have GW : FnOk P w K mg b0 CX0 (k + 1) fW fdW ["thing"] spWhole := ok_whole FW mis mint mbo
  have GS : FnOk P w K mg b0 CX0 (k + 2) fS fdS ["places"] spSize := ok_size FS FW bW gW g9 mis mint mbo
  have GA : FnOk P w K mg b0 CX0 (k + 3) fA fdA ["places", "thing"] spPair := ok_pair FA FW bW gW FP bP gP mis mint mbo mtu ml
  refine F.ok scRefuse (fun vs H Q E h => ?_) (fun cdv A outer s H vs Q E hr h => ?_)
  · obtain ⟨n, l, xs, ts, rfl, _⟩ := h
    rfl
  · obtain ⟨n, l, xs, ts, rfl, h1, h9, hl, hT, ok, few, q⟩ := h
    have hxl : xs.length = ts.length := Paired.length hT
    have hr1 := hr.mono (j := k + 2) (by omega)
    rcases hl with hl | hl
    case' inl =>
      refine ⟨_, pss_cons (ps_expr (pe_call GS hr1 (by rfl) gS FS.kp bS .nil pass0 (pa_cons (pv 0) pa_nil)))
        (pss_cons (ps_if (pt_cmpR op_gt (pe_callB call_len_seq (by rfl) ml PySem.boot_len (pa_cons (pv 1) pa_nil)) (pv 2) (nomark _)) (pss_one ps_never) pss_nil)
        (pss_one (ps_for PassesOwn.never rfl (pi_enum (by rfl) men (pa_cons (pv 1) pa_nil)) (pg_tup rfl (pgs_cons (pg_name (i := 3) scRefuse.nd rfl (.inl rfl)) (pgs_cons (pg_name (i := 4) scRefuse.nd rfl (.inl rfl)) pgs_nil)))
          (pss_one (ps_if (pt_not (pt_val (pe_call GA hr (by rfl) gA FA.kp bA .nil pass0 (pa_cons (pv 0) (pa_cons (pv 4) pa_nil))))) (pss_one ps_never) pss_nil))))), ?_⟩
    case' inr =>
      refine ⟨_, pss_cons (ps_expr (pe_call GS hr1 (by rfl) gS FS.kp bS .nil pass0 (pa_cons (pv 0) pa_nil)))
        (pss_cons (ps_if (pt_cmpR op_gt (pe_callB call_len_seq (by rfl) ml PySem.boot_len (pa_cons (pv 1) pa_nil)) (pv 2) (nomark _)) (pss_one ps_never) pss_nil)
        (pss_one (ps_for PassesOwn.never rfl (pi_enumT (by rfl) men (pa_cons (pv 1) pa_nil)) (pg_tup rfl (pgs_cons (pg_name (i := 3) scRefuse.nd rfl (.inl rfl)) (pgs_cons (pg_name (i := 4) scRefuse.nd rfl (.inl rfl)) pgs_nil)))
          (pss_one (ps_if (pt_not (pt_val (pe_call GA hr (by rfl) gA FA.kp bA .nil pass0 (pa_cons (pv 0) (pa_cons (pv 4) pa_nil))))) (pss_one ps_never) pss_nil))))), ?_⟩
    all_goals refine ⟨_, rfl, n, rfl, h1, h9, ?_⟩
    rotate_left
    · refine ⟨_, rfl, l, xs, rfl, .inl (SqL.of hl), _, rfl, _, _, rfl, rfl, _, rfl, ?_⟩
      rw [decide_eq_false (show ¬ (30 : Int) < (xs.length : Int) by omega)]
      refine iteF ⟨_, rfl, l, xs, rfl, SqL.of hl, ?_⟩
      refine for_enumL (xs := xs) (fun i σ H3 => (∃ y3 y4, σ = [some (.int n), some (.ref l), some (.int 30), y3, y4]) ∧ Same H H3) ⟨⟨none, none, rfl⟩, Same.refl H⟩ (fun i σ H3 _ hW => SqL.of (hW.2 _ _ hl)) (fun i x σ H3 T hx hW nT => ?_) (fun σ H3 hW => q _ hW.2)
      obtain ⟨⟨y3, y4, rfl⟩, sm⟩ := hW
      obtain ⟨t, ht, hti⟩ := TiesAt.at (hT.mono (TupK.same (sm.trans (same_new nT)))) hx
      refine ⟨T, _, rfl, SqT.of upd_same, rfl, _, _, rfl, _, _, rfl, rfl, ?_⟩
      refine ⟨_, rfl, _, rfl, n, x, t, rfl, hti, ok t (List.mem_of_getElem? ht), true, rfl, iteF ?_⟩
      exact ⟨⟨_, _, rfl⟩, sm.trans (same_new nT)⟩
    · refine ⟨_, rfl, l, xs, rfl, .inr (SqT.of hl), _, rfl, _, _, rfl, rfl, _, rfl, ?_⟩
      rw [decide_eq_false (show ¬ (30 : Int) < (xs.length : Int) by omega)]
      refine iteF ⟨_, rfl, l, xs, rfl, SqT.of hl, ?_⟩
      refine for_enumT (xs := xs) (fun i σ H3 => (∃ y3 y4, σ = [some (.int n), some (.ref l), some (.int 30), y3, y4]) ∧ Same H H3) ⟨⟨none, none, rfl⟩, Same.refl H⟩ (fun i σ H3 _ hW => SqT.of (hW.2 _ _ hl)) (fun i x σ H3 T hx hW nT => ?_) (fun σ H3 hW => q _ hW.2)
      obtain ⟨⟨y3, y4, rfl⟩, sm⟩ := hW
      obtain ⟨t, ht, hti⟩ := TiesAt.at (hT.mono (TupK.same (sm.trans (same_new nT)))) hx
      refine ⟨T, _, rfl, SqT.of upd_same, rfl, _, _, rfl, _, _, rfl, rfl, ?_⟩
      refine ⟨_, rfl, _, rfl, n, x, t, rfl, hti, ok t (List.mem_of_getElem? ht), true, rfl, iteF ?_⟩
      exact ⟨⟨_, _, rfl⟩, sm.trans (same_new nT)⟩
end
end TA
set_option maxHeartbeats 4000000
namespace TA
open PySem PySem.Spec PyProof.Rows L2
open GxR (TabB TabG Tabbed)
abbrev sMade : Stmt := topS 13
def norm (t : Int × Int) : Int × Int := (if t.2 < t.1 then t.2 else t.1, if t.2 > t.1 then t.2 else t.1)
structure WebAt (H : Hp) (v : V) (n : Nat) (ts : List (Int × Int)) : Prop where
  at_ : ∃ r t xs, v = .ref r ∧ H r = some (.tup [.int n, .ref t]) ∧ H t = some (.tup xs) ∧ TiesAt H xs ts
theorem WebAt.mono {H H' : Hp} (k : TupK H H') {v : V} {n : Nat} {ts : List (Int × Int)} (h : WebAt H v n ts) : WebAt H' v n ts := by
  obtain ⟨r, t, xs, h1, h2, h3, h4⟩ := h.at_
  exact ⟨r, t, xs, h1, k _ _ h2, k _ _ h3, h4.mono k⟩
theorem tabG_ne {H : Hp} {P q : Addr} (t : TabG H P) (h : ∀ ps, H q ≠ some (.tbl ps)) : q ≠ P := fun e => by
  obtain ⟨ps, e1, _⟩ := t
  rw [← e] at e1
  exact h ps e1
theorem TupK.tab {H H' : Hp} {P : Addr} (t : TabG H P) (s : Fro P H H') : TupK H H' := fun q xs h => s q _ (tabG_ne t fun ps e => by rw [h] at e; cases e) h
theorem Fro.tabbed {H H' : Hp} {P : Addr} (t : Tabbed P H H') : Fro P H H' := fun q o n h => by rw [t.2 q n]; exact h
theorem SeqIs.ne {H : Hp} {P l : Addr} {xs : List V} (t : TabG H P) (h : SeqIs H l xs) : l ≠ P := by
  refine tabG_ne t fun ps e => ?_
  rcases h with h | h
  · rw [h] at e; cases e
  · rw [h] at e; cases e
/-- between two turns of the generator -/
structure MadeI (T : Addr) (H : Hp) (ts : List (Int × Int)) (i : Nat) (ys : List V) (H3 : Hp) : Prop where
  fro : Fro T H H3
  tab : TabG H3 T
  ties : TiesAt H3 ys ((ts.take i).map norm)
  len : ys.length = i
theorem MadeI.step {T : Addr} {H H3 : Hp} {ts : List (Int × Int)} {i : Nat} {ys : List V} {t : Int × Int} {u : Addr} (h : MadeI T H ts i ys H3) (ht : ts[i]? = some t) (nu : H3 u = none) (few : ts.length ≤ 30) :
    ys.length < sizeLine ∧ MadeI T H ts (i + 1) (ys ++ [.ref u]) (upd H3 u (.tup [.int (norm t).1, .int (norm t).2])) := by
  have hi : i < ts.length := (List.getElem?_eq_some_iff.mp ht).1
  refine ⟨small1000 (by rw [h.len]; omega), h.fro.new nu, tabG_new h.tab nu, ?_, by rw [List.length_append, h.len]; rfl⟩
  rw [take_succ ht, List.map_append]
  exact paired_snoc (h.ties.mono (TupK.new nu)) ⟨u, rfl, upd_same⟩
theorem MadeI.fin {T : Addr} {H H3 : Hp} {ts : List (Int × Int)} {ys : List V} {n : Nat} {u r : Addr} {Q : VK} (h : MadeI T H ts ts.length ys H3) (nu : H3 u = none) (nr : (upd H3 u (.tup ys)) r = none)
    (q : ∀ v H', Fro T H H' → TabG H' T → WebAt H' v n (ts.map norm) → Q v H') : Q (.ref r) (upd (upd H3 u (.tup ys)) r (.tup [.int n, .ref u])) := by
  have hT := h.ties
  rw [List.take_length] at hT
  have hur : u ≠ r := ne_of_none upd_same nr
  refine q _ _ ((h.fro.new nu).new nr) (tabG_new (tabG_new h.tab nu) nr) ⟨r, u, ys, rfl, upd_same, by rw [upd_ne hur, upd_same], ?_⟩
  exact TiesAt.mono ((TupK.new nu).trans (TupK.new nr)) hT
section
variable {P : Program} {w : World} {K : PySem.W.Frag} {mg : Str → Option Value} {b0 : Heap}
abbrev nMade : List Str := ["places", "ties", "a", "b"]
theorem scMade : FnScope nMade ["places", "ties"] (defScope sMade) := ⟨rfl, rfl, rfl, by decide +kernel, rfl, by decide +kernel, by decide +kernel⟩
def spMade (T : Addr) : Sp := fun vs H Q _ => ∃ (n : Nat) (l : Addr) (xs : List V) (ts : List (Int × Int)), vs = [.int n, .ref l] ∧ 1 ≤ n ∧ n ≤ 9 ∧ SeqIs H l xs ∧ TiesAt H xs ts ∧ (∀ t ∈ ts, PairOk n t) ∧ ts.length ≤ 30 ∧ TabG H T ∧
  ∀ v H', Fro T H H' → TabG H' T → WebAt H' v n (ts.map norm) → Q v H'
theorem ok_made {T c f fR fA fP fW : Addr} {fd fdR fdA fdP fdW : FuncData} {k : Nat} (F : Fun K "made_web" "made_web" sMade f fd) (hcd : fd.code = .ref c) (TB : TabB b0 mg c T) (FW : Fun K "is_whole" "is_whole" sWhole fW fdW) (bW : Binds K fdW ["thing"] []) (gW : mg "is_whole" = some (.ref fW))
    (FP : Fun K "is_place" "is_place" sPlace fP fdP) (bP : Binds K fdP ["places", "thing"] []) (gP : mg "is_place" = some (.ref fP))
    (FA : Fun K "is_pair" "is_pair" sPair fA fdA) (bA : Binds K fdA ["places", "thing"] []) (gA : mg "is_pair" = some (.ref fA))
    (FR : Fun K "refuse_layout" "refuse_layout" sRefuse fR fdR) (bR : Binds K fdR ["places", "pairs", "most"] []) (gR : mg "refuse_layout" = some (.ref fR)) {fS : Addr} {fdS : FuncData} (FS : Fun K "refuse_size" "refuse_size" sSize fS fdS) (bS : Binds K fdS ["places"] []) (gS : mg "refuse_size" = some (.ref fS)) {t9 t30 : Tok} (g9 : mg "MOST_PLACES" = some (.int 9 t9)) (g30 : mg "MOST_TIES" = some (.int 30 t30))
    (mis : mg "isinstance" = none) (mint : mg "int" = none) (mbo : mg "bool" = none) (mtu : mg "tuple" = none) (ml : mg "len" = none) (men : mg "enumerate" = none) (mmi : mg "min" = none) (mma : mg "max" = none) : FnOk P w K mg b0 CX0 (k + 5) f fd ["places", "ties"] (spMade T) := by
  have GR : FnOk P w K mg b0 CX0 (k + 4) fR fdR ["places", "pairs", "most"] spRefuse := ok_refuse FR FW bW gW FP bP gP FA bA gA FS bS gS g9 mis mint mbo mtu ml men
  refine okC F hcd scMade (fun vs H Q E h => ?_) (fun A outer s H vs Q E hr h => ?_)
  · obtain ⟨n, l, xs, ts, rfl, _⟩ := h
    rfl
  · obtain ⟨n, l, xs, ts, rfl, h1, h9, hl, hT, ok, few, tg, q⟩ := h
    have hxl : xs.length = ts.length := Paired.length hT
    have hr1 := hr.mono (j := k + 1) (by omega)
    have hlT := hl.ne tg
    rcases hl with hl | hl
    case' inl =>
      refine ⟨_, pss_cons (ps_expr (pe_call GR hr (by rfl) gR FR.kp bR .nil pass0 (pa_cons (pv 0) (pa_cons (pv 1) (pa_cons (pe_glob (v := .int 30) (by rfl) g30 ⟨t30, rfl⟩) pa_nil)))))
        (pss_one (ps_ret (pe_tup (pa_cons (pv 0) (pa_cons (pe_tupGx (k := k + 3) (pgen_exp (own := [("a", 2), ("b", 3)]) (g := gTup K 2 (gCons (gName 2) (gCons (gName 3) gNil))) (tt := tYes) (hr.mono (by omega)) rfl scMade.nd TB rfl (gxOk_by (N := nMade) (sc := defScope sMade) (by decide +kernel)) (pi_list (pv 1))
          (fun _ _ _ _ _ _ _ => pg_tup rfl (pgs_cons (pg_name (i := 2) scMade.nd rfl (.inl rfl)) (pgs_cons (pg_name (i := 3) scMade.nd rfl (.inl rfl)) pgs_nil))) (fun _ _ _ _ _ _ _ _ => pts_nil)
          (fun _ _ _ _ _ _ _ _ => pe_tup (pa_cons (pe_callB (call_min2 rfl) (by rfl) mmi (by decide +kernel) (pa_cons (pv 2) (pa_cons (pv 3) pa_nil))) (pa_cons (pe_callB (call_max2 rfl) (by rfl) mma (by decide +kernel) (pa_cons (pv 2) (pa_cons (pv 3) pa_nil))) pa_nil))))
          hr (by rfl) mtu) pa_nil))))), ?_⟩
    case' inr =>
      refine ⟨_, pss_cons (ps_expr (pe_call GR hr (by rfl) gR FR.kp bR .nil pass0 (pa_cons (pv 0) (pa_cons (pv 1) (pa_cons (pe_glob (v := .int 30) (by rfl) g30 ⟨t30, rfl⟩) pa_nil)))))
        (pss_one (ps_ret (pe_tup (pa_cons (pv 0) (pa_cons (pe_tupGx (k := k + 3) (pgen_exp (own := [("a", 2), ("b", 3)]) (g := gTup K 2 (gCons (gName 2) (gCons (gName 3) gNil))) (tt := tYes) (hr.mono (by omega)) rfl scMade.nd TB rfl (gxOk_by (N := nMade) (sc := defScope sMade) (by decide +kernel)) (pi_tup (pv 1))
          (fun _ _ _ _ _ _ _ => pg_tup rfl (pgs_cons (pg_name (i := 2) scMade.nd rfl (.inl rfl)) (pgs_cons (pg_name (i := 3) scMade.nd rfl (.inl rfl)) pgs_nil))) (fun _ _ _ _ _ _ _ _ => pts_nil)
          (fun _ _ _ _ _ _ _ _ => pe_tup (pa_cons (pe_callB (call_min2 rfl) (by rfl) mmi (by decide +kernel) (pa_cons (pv 2) (pa_cons (pv 3) pa_nil))) (pa_cons (pe_callB (call_max2 rfl) (by rfl) mma (by decide +kernel) (pa_cons (pv 2) (pa_cons (pv 3) pa_nil))) pa_nil))))
          hr (by rfl) mtu) pa_nil))))), ?_⟩
    rotate_left
    · refine ⟨_, rfl, _, rfl, n, l, xs, ts, rfl, h1, h9, .inl hl, hT, ok, few, fun H1 s1 => ?_⟩
      have tg1 : TabG H1 T := tabG_keep tg fun ps e => s1 _ _ e
      refine ⟨_, rfl, _, rfl, l, rfl, ⟨xs, SqL.of (s1 _ _ hl)⟩, tg1, fun H2 tb => ?_⟩
      have f2 : Fro T H H2 := (Fro.same s1).trans (Fro.tabbed tb)
      refine gx_list (xs := xs) (MadeI T H ts) ⟨f2, tb.1, .nil, rfl⟩ (fun i ys H3 _ hW => SqL.of (hW.1 _ _ hlT hl)) (fun i x ys H3 hx hW => ?_) (fun ys H3 hW => ?_)
      · obtain ⟨t, ht, a, rfl, ha⟩ := TiesAt.at (hT.mono (TupK.tab tg hW.1)) hx
        refine ⟨a, _, rfl, SqT.of ha, rfl, _, _, rfl, _, _, rfl, rfl, rfl, ?_⟩
        refine ⟨_, rfl, _, rfl, _, _, rfl, _, rfl, _, rfl, _, _, rfl, by show 2 ≤ sizeLine; decide, fun u nu => ?_⟩
        exact hW.step ht nu few
      · have hW' : MadeI T H ts ts.length ys H3 := by rw [← hxl]; exact hW
        exact fun u nu => ⟨by show 2 ≤ sizeLine; decide, fun r nr => hW'.fin nu nr q⟩
    · refine ⟨_, rfl, _, rfl, n, l, xs, ts, rfl, h1, h9, .inr hl, hT, ok, few, fun H1 s1 => ?_⟩
      have tg1 : TabG H1 T := tabG_keep tg fun ps e => s1 _ _ e
      refine ⟨_, rfl, _, rfl, l, rfl, ⟨xs, SqT.of (s1 _ _ hl)⟩, tg1, fun H2 tb => ?_⟩
      have f2 : Fro T H H2 := (Fro.same s1).trans (Fro.tabbed tb)
      refine gx_tup (xs := xs) (MadeI T H ts) ⟨f2, tb.1, .nil, rfl⟩ (fun i ys H3 _ hW => SqT.of (hW.1 _ _ hlT hl)) (fun i x ys H3 hx hW => ?_) (fun ys H3 hW => ?_)
      · obtain ⟨t, ht, a, rfl, ha⟩ := TiesAt.at (hT.mono (TupK.tab tg hW.1)) hx
        refine ⟨a, _, rfl, SqT.of ha, rfl, _, _, rfl, _, _, rfl, rfl, rfl, ?_⟩
        refine ⟨_, rfl, _, rfl, _, _, rfl, _, rfl, _, rfl, _, _, rfl, by show 2 ≤ sizeLine; decide, fun u nu => ?_⟩
        exact hW.step ht nu few
      · have hW' : MadeI T H ts ts.length ys H3 := by rw [← hxl]; exact hW
        exact fun u nu => ⟨by show 2 ≤ sizeLine; decide, fun r nr => hW'.fin nu nr q⟩
end
end TA
set_option maxHeartbeats 4000000
namespace TA
open PySem PySem.Spec PyProof.Rows L2
abbrev sLPair : Stmt := topS 18
abbrev sLPairs : Stmt := topS 19
/-! ### ties as data -/
abbrev tieD (t : Int × Int) : PyData := .tuple [.int t.1, .int t.2]
theorem dp_tie {K : PySem.W.Frag} {H : Hp} {x : V} {t : Int × Int} (h : TieIs H x t) : Dp K H x (tieD t) := by
  obtain ⟨a, rfl, h⟩ := h
  exact .tup (SqT.of h) (.cons (.int _) (.cons (.int _) .nil))
theorem dp_ties {K : PySem.W.Frag} {H : Hp} : ∀ {xs : List V} {ts : List (Int × Int)}, TiesAt H xs ts → DpAll K H xs (ts.map tieD)
  | _, _, .nil => .nil
  | _, _, .cons h t => .cons (dp_tie h) (dp_ties t)
theorem fit_tie {t : Int × Int} (h1 : t.1.natAbs < 32) (h2 : t.2.natAbs < 32) : Fit (tieD t) 12 1 := by
  exact (fit_tuple (fit_cons (fit_int (k := 5) (by decide) (by decide) h1) (fit_cons (fit_int (k := 5) (by decide) (by decide) h2) fit_nil |>.up (Nat.le_refl _) (Nat.le_refl _)))).up (by omega) (Nat.le_refl _)
theorem fit_ties {ts : List (Int × Int)} {n : Nat} (n9 : n ≤ 9) (ok : ∀ t ∈ ts, PairOk n t) : FitAll (ts.map tieD) (13 * ts.length) 1 := by
  refine (fit_map (g := tieD) (w := 12) (dp := 1) fun t ht => ?_).up (Nat.le_refl _) (Nat.le_refl _)
  obtain ⟨a1, a2, a3, a4, _⟩ := ok t ht
  exact fit_tie (by omega) (by omega)
theorem PairOk.turn {n : Nat} {t : Int × Int} (h : PairOk n t) : PairOk n (t.2, t.1) := by
  obtain ⟨a1, a2, a3, a4, a5⟩ := h
  exact ⟨a3, a4, a1, a2, fun e => a5 e.symm⟩
theorem unlike {n : Nat} {a d : Int} (h : 1 < n) (a0 : 0 ≤ a) (a1 : a < n) (d0 : 0 ≤ d) (d1 : d < n - 1) : a ≠ (a + 1 + d) % n := by
  intro e
  by_cases hh : a + 1 + d < n
  · rw [Int.emod_eq_of_lt (by omega) hh] at e
    omega
  · have e2 : (a + 1 + d) % n = a + 1 + d - n := by
      rw [← Int.sub_emod_right, Int.emod_eq_of_lt (by omega) (by omega)]
    omega
section
variable {P : Program} {w : World} {K : PySem.W.Frag} {mg : Str → Option Value} {b0 : Heap}
abbrev nLPair : List Str := ["_law_pot_here", "_law_places", "_law_found", "_law_a"]
theorem scLPair : FnScope nLPair ["_law_pot_here", "_law_places", "_law_found"] (defScope sLPair) := ⟨rfl, rfl, rfl, by decide +kernel, rfl, by decide +kernel, by decide +kernel⟩
def spLPair : Sp := fun vs H Q _ => ∃ (p l : Addr) (n : Nat) (xs : List V) (ts : List (Int × Int)), vs = [.ref p, .int n, .ref l] ∧ 2 ≤ n ∧ n ≤ 9 ∧ Pot H p ∧ l ≠ p ∧ H l = some (.lst xs) ∧ TiesAt H xs ts ∧ (∀ t ∈ ts, PairOk n t) ∧ ts.length ≤ 30 ∧
  ∀ u t H', Fro p H H' → Pot H' p → H' u = some (.tup [.int t.1, .int t.2]) → PairOk n t → Q (.ref u) H'
theorem ok_lpair {f fT : Addr} {fd fdT : FuncData} {k : Nat} (F : Fun K "_law_pair" "_law_pair" sLPair f fd) (FT : Fun K "_law_take" "_law_take" sTake fT fdT) (bT : Binds K fdT ["_law_pot_here", "_law_many"] [])
    (gT : mg "_law_take" = some (.ref fT)) (md : mg "divmod" = none) (ml : mg "len" = none) : FnOk P w K mg b0 CX0 (k + 2) f fd ["_law_pot_here", "_law_places", "_law_found"] spLPair := by
  have GT : FnOk P w K mg b0 CX0 (k + 1) fT fdT ["_law_pot_here", "_law_many"] spTake := ok_take FT md
  refine F.ok scLPair (fun vs H Q E h => ?_) (fun cdv A outer s H vs Q E hr h => ?_)
  · obtain ⟨p, l, n, xs, ts, rfl, _⟩ := h
    rfl
  · obtain ⟨p, l, n, xs, ts, rfl, h2, h9, hP, lp, hl, hT, ok, few, q⟩ := h
    refine ⟨_, pss_cons (ps_if (PW.pt (pw_and (pt_cmpR (op_neD hr.units) (pv 2) (pe_lst pa_nil) (nomark _)) (pw_and1 (pt_cmpR op_eq (pe_call GT hr (by rfl) gT FT.kp bT .nil pass0 (pa_cons (pv 0) (pa_cons pe_int pa_nil))) pe_int (nomark _)))))
        (pss_one (ps_ret (pe_revP (pe_ix ix_list (pv 2) (pe_call GT hr (by rfl) gT FT.kp bT .nil pass0 (pa_cons (pv 0) (pa_cons (pe_callB call_len_seq (by rfl) ml PySem.boot_len (pa_cons (pv 2) pa_nil)) pa_nil))) (fun _ _ => rfl))))) pss_nil)
      (pss_cons (ps_set (i := 3) scLPair.nd rfl (.inl rfl) (pe_call GT hr (by rfl) gT FT.kp bT .nil pass0 (pa_cons (pv 0) (pa_cons (pv 1) pa_nil))))
      (pss_one (ps_ret (pe_tup (pa_cons (pv 3) (pa_cons (pe_op op_mod (pe_op op_add (pe_op op_add (pv 3) pe_int) (pe_call GT hr (by rfl) gT FT.kp bT .nil pass0 (pa_cons (pv 0) (pa_cons (pe_op op_sub (pv 1) pe_int) pa_nil)))) (pv 1)) pa_nil)))))), ?_⟩
    have hxl : xs.length = ts.length := Paired.length hT
    refine ⟨_, rfl, Nat.zero_le _, fun e ne => ?_⟩
    have le : l ≠ e := ne_of_none hl ne
    have f1 : Fro p H (upd H e (.lst [])) := (Fro.refl p H).new ne
    have p1 : Pot (upd H e (.lst [])) p := hP.new ne
    have hl1 : (upd H e (.lst [])) l = some (.lst xs) := by rw [upd_ne le]; exact hl
    have fs : Fit (.list (ts.map tieD)) (13 * ts.length) 2 := fit_list (fit_ties h9 ok)
    refine ⟨.list (ts.map tieD), .list [], .lst (SqL.of hl1) (dp_ties (hT.mono (TupK.new ne))), .lst (SqL.of upd_same) .nil, fs.shaped (by decide), (fit_list fit_nil).shaped (by decide), _, rfl, ?_⟩
    cases ts with
    | nil =>
      refine iteF ?_
      refine ⟨_, rfl, _, rfl, p, n, rfl, by omega, by omega, p1, fun a Ha a0 a1 fa pa => ⟨_, rfl, _, rfl, _, _, rfl, rfl, _, rfl, _, rfl, _, _, rfl, rfl, p, _, rfl, by omega, by omega, pa, fun d Hd d0 d1 fd' pd =>
        ⟨_, _, rfl, rfl, _, rfl, _, _, rfl, rfl, by show (0 : Int) < n; omega, by show 2 ≤ sizeLine; decide, fun t nt => ?_⟩⟩⟩
      refine q t (a, (a + 1 + d) % n) _ (((f1.trans fa).trans fd').new nt) (pd.new nt) upd_same ⟨a0, a1, Int.emod_nonneg _ (by omega), Int.emod_lt_of_pos _ (by omega), ?_⟩
      exact unlike (by omega) a0 a1 d0 (by omega)
    | cons t0 tr =>
      refine iteT ⟨_, rfl, p, 4, rfl, by decide, by decide, p1, fun c Hc c0 c1 fc pc => ⟨rfl, _, rfl, ?_⟩⟩
      have hlc : Hc l = some (.lst xs) := fc _ _ lp hl1
      refine ite2 (fun z => ?_) (fun z => ?_)
      · refine ⟨_, rfl, _, rfl, _, rfl, l, _, rfl, .inl (SqL.of hlc), p, _, rfl, ?_, ?_, pc, fun d Hd d0 d1 fd' pd => ?_⟩
        · rw [hxl, List.length_cons]; omega
        · rw [hxl]; omega
        have hld := fd' _ _ lp hlc
        have kT : TupK H Hd := ((TupK.new ne).trans (p1.tup fc)).trans (pc.tup fd')
        obtain ⟨i, rfl⟩ : ∃ i : Nat, d = i := ⟨d.toNat, by omega⟩
        have hi : i < xs.length := by omega
        obtain ⟨t, ht, u, hu, hu2⟩ := TiesAt.at (hT.mono kT) (List.getElem?_eq_getElem hi)
        refine ⟨l, xs, i, xs[i], rfl, rfl, SqL.of hld, atI_nat (List.getElem?_eq_getElem hi), u, _, _, hu, SqT.of hu2, fun r nr => ?_⟩
        exact q r (t.2, t.1) _ (((f1.trans fc).trans fd').new nr) (pd.new nr) upd_same (ok t (List.mem_of_getElem? ht)).turn
      · have f1 : Fro p H Hc := f1.trans fc
        have p1 : Pot Hc p := pc
        refine ⟨_, rfl, _, rfl, p, n, rfl, by omega, by omega, p1, fun a Ha a0 a1 fa pa => ⟨_, rfl, _, rfl, _, _, rfl, rfl, _, rfl, _, rfl, _, _, rfl, rfl, p, _, rfl, by omega, by omega, pa, fun d Hd d0 d1 fd' pd =>
          ⟨_, _, rfl, rfl, _, rfl, _, _, rfl, rfl, by show (0 : Int) < n; omega, by show 2 ≤ sizeLine; decide, fun t nt => ?_⟩⟩⟩
        refine q t (a, (a + 1 + d) % n) _ (((f1.trans fa).trans fd').new nt) (pd.new nt) upd_same ⟨a0, a1, Int.emod_nonneg _ (by omega), Int.emod_lt_of_pos _ (by omega), ?_⟩
        exact unlike (by omega) a0 a1 d0 (by omega)
end
end TA
set_option maxHeartbeats 4000000
namespace TA
open PySem PySem.Spec PyProof.Rows L2
section
variable {P : Program} {w : World} {K : PySem.W.Frag} {mg : Str → Option Value} {b0 : Heap}
abbrev nLPairs : List Str := ["_law_pot_here", "_law_places", "_law_found", "_law_k"]
theorem scLPairs : FnScope nLPairs ["_law_pot_here", "_law_places"] (defScope sLPairs) := ⟨rfl, rfl, rfl, by decide +kernel, rfl, by decide +kernel, by decide +kernel⟩
structure PairsAt (H : Hp) (l : Addr) (n : Nat) (ts : List (Int × Int)) : Prop where
  at_ : ∃ xs, H l = some (.lst xs) ∧ TiesAt H xs ts
  ok : ∀ t ∈ ts, PairOk n t
  few : ts.length ≤ 30
def spLPairs : Sp := fun vs H Q _ => ∃ (p : Addr) (n : Nat), vs = [.ref p, .int n] ∧ 1 ≤ n ∧ n ≤ 9 ∧ Pot H p ∧
  ∀ l H' ts, H l = none → Fro p H H' → Pot H' p → PairsAt H' l n ts → Q (.ref l) H'
theorem ok_lpairs {f fA fT : Addr} {fd fdA fdT : FuncData} {k : Nat} (F : Fun K "_law_pairs" "_law_pairs" sLPairs f fd) (FT : Fun K "_law_take" "_law_take" sTake fT fdT) (bT : Binds K fdT ["_law_pot_here", "_law_many"] [])
    (gT : mg "_law_take" = some (.ref fT)) (FA : Fun K "_law_pair" "_law_pair" sLPair fA fdA) (bA : Binds K fdA ["_law_pot_here", "_law_places", "_law_found"] []) (gA : mg "_law_pair" = some (.ref fA))
    (md : mg "divmod" = none) (ml : mg "len" = none) (mra : mg "range" = none) (mint : mg "int" = none) : FnOk P w K mg b0 CX0 (k + 3) f fd ["_law_pot_here", "_law_places"] spLPairs := by
  have GT : FnOk P w K mg b0 CX0 (k + 1) fT fdT ["_law_pot_here", "_law_many"] spTake := ok_take FT md
  have GA : FnOk P w K mg b0 CX0 (k + 2) fA fdA ["_law_pot_here", "_law_places", "_law_found"] spLPair := ok_lpair FA FT bT gT md ml
  refine F.ok scLPairs (fun vs H Q E h => ?_) (fun cdv A outer s H vs Q E hr h => ?_)
  · obtain ⟨p, n, rfl, _⟩ := h
    rfl
  · obtain ⟨p, n, rfl, h1, h9, hP, q⟩ := h
    have hr1 := hr.mono (j := k + 1) (by omega)
    refine ⟨_, pss_cons (ps_set (i := 2) scLPairs.nd rfl (.inl rfl) (pe_lst pa_nil))
      (pss_cons (ps_for PassesOwn.never rfl (pi_range1 (by rfl) mra (pa_cons (pe_op op_mul (pe_call GT hr1 (by rfl) gT FT.kp bT .nil pass0 (pa_cons (pv 0) (pa_cons pe_int pa_nil)))
          (pe_callTy call_int1 (by rfl) mint (by decide +kernel) (pa_cons (pe_cmpR op_gt (pv 1) pe_int (nomark _)) pa_nil))) pa_nil)) (pg_name (i := 3) scLPairs.nd rfl (.inl rfl))
        (pss_one (ps_expr (pe_bm PySem.F.plainAttrs_list PySem.F.slot_list_append PySem.F.type_list_append mt_append (pv 2) (pa_cons (pe_call GA hr (by rfl) gA FA.kp bA .nil pass0 (pa_cons (pv 0) (pa_cons (pv 1) (pa_cons (pv 2) pa_nil)))) pa_nil)))))
      (pss_one (ps_ret (pv 2)))), ?_⟩
    refine ⟨Nat.zero_le _, fun l nl => ?_⟩
    have lp : l ≠ p := hP.ne nl
    refine ⟨_, rfl, p, 31, rfl, by decide, by decide, hP.new nl, fun d4 H4 d40 d41 f4 p4 => ?_⟩
    refine ⟨_, rfl, _, _, rfl, rfl, .inr ⟨_, rfl, _, _, rfl, rfl, .inl ⟨by omega, by omega⟩, ?_⟩⟩
    have hj : ∃ j : Nat, d4 * (if decide ((1 : Int) < n) = true then 1 else 0) = j ∧ j ≤ 30 ∧ (0 < j → 1 < n) := by
      by_cases hh : (1 : Int) < n
      · rw [if_pos (decide_eq_true hh)]
        exact ⟨d4.toNat, by omega, by omega, fun _ => by omega⟩
      · rw [if_neg (by simpa using hh)]
        exact ⟨0, by omega, by omega, fun z => absurd z (by omega)⟩
    obtain ⟨j, ej, j30, jn⟩ := hj
    refine ⟨_, rfl, ?_, ?_, ?_⟩
    · rw [ej]; omega
    · rw [ej]; omega
    rw [ej, Int.toNat_natCast]
    have hl4 : H4 l = some (.lst []) := f4 _ _ lp upd_same
    refine for_range (lo := 0) (n := j) (fun i σ Hx => ∃ y3 xs ts, σ = [some (.ref p), some (.int n), some (.ref l), y3] ∧ Fro p H Hx ∧ Pot Hx p ∧ Hx l = some (.lst xs) ∧ TiesAt Hx xs ts ∧ (∀ t ∈ ts, PairOk n t) ∧ ts.length = i)
      ⟨none, [], [], rfl, ((Fro.refl p H).new nl).trans f4, p4, hl4, .nil, fun _ z => (nomatch z), rfl⟩ (fun i σ Hx hi hW => ?_) (fun σ Hx hW => ?_)
    · obtain ⟨y3, xs, ts, rfl, fx, px, hl, hT, ok, len⟩ := hW
      have hn2 : 1 < n := jn (by omega)
      have hxl := Paired.length hT
      refine ⟨_, rfl, .inl ⟨rfl, _, SqL.of hl⟩, _, rfl, _, rfl, _, rfl, p, l, n, xs, ts, rfl, by omega, h9, px, lp, hl, hT, ok, by omega, fun u t Hu fu pu hu hok => ?_⟩
      have hlu := fu _ _ lp hl
      refine ⟨l, xs, .ref u, rfl, rfl, hlu, small1000 (by omega), ?_⟩
      refine ⟨_, _, ts ++ [t], rfl, (fx.trans fu).putAt nl, pu.keep lp.symm, upd_same, ?_, fun z hz => ?_, ?_⟩
      · exact paired_snoc (TiesAt.mono ((px.tup fu).trans (TupK.lst hlu)) hT) ⟨u, rfl, by rw [upd_ne (ne_of hu hlu (by intro z; cases z))]; exact hu⟩
      · rcases List.mem_append.mp hz with z' | z'
        · exact ok z z'
        · rw [List.mem_singleton.mp z']
          exact hok
      · rw [List.length_append, len]
        rfl
    · obtain ⟨y3, xs, ts, rfl, fx, px, hl, hT, ok, len⟩ := hW
      exact ⟨_, rfl, q l Hx ts nl fx px ⟨⟨xs, hl, hT⟩, ok, by omega⟩⟩
end
end TA
set_option maxHeartbeats 8000000
namespace TA
open PySem PySem.Spec PyProof.Rows L2
open GxR (TabB TabG Tabbed)
abbrev sRight : Stmt := topS 20
abbrev sLaw : Stmt := topS 21
theorem norm_eq (t : Int × Int) : norm t = (min t.1 t.2, max t.1 t.2) := by
  unfold norm
  refine Prod.ext ?_ ?_
  · show (if t.2 < t.1 then t.2 else t.1) = min t.1 t.2
    rw [Int.min_def]
    split <;> split <;> omega
  · show (if t.2 > t.1 then t.2 else t.1) = max t.1 t.2
    rw [Int.max_def]
    split <;> split <;> omega
theorem norm_norm (t : Int × Int) : norm (norm t) = norm t := by
  rw [norm_eq, norm_eq]
  refine Prod.ext ?_ ?_
  · show min (min t.1 t.2) (max t.1 t.2) = min t.1 t.2
    omega
  · show max (min t.1 t.2) (max t.1 t.2) = max t.1 t.2
    omega
abbrev swap (t : Int × Int) : Int × Int := (t.2, t.1)
theorem norm_swap (t : Int × Int) : norm (swap t) = norm t := by
  rw [norm_eq, norm_eq]
  refine Prod.ext ?_ ?_
  · show min t.2 t.1 = min t.1 t.2
    omega
  · show max t.2 t.1 = max t.1 t.2
    omega
theorem PairOk.norm {n : Nat} {t : Int × Int} (h : PairOk n t) : PairOk n (norm t) := by
  obtain ⟨a1, a2, a3, a4, a5⟩ := h
  rw [norm_eq]
  refine ⟨?_, ?_, ?_, ?_, ?_⟩
  · show 0 ≤ min t.1 t.2; omega
  · show min t.1 t.2 < n; omega
  · show 0 ≤ max t.1 t.2; omega
  · show max t.1 t.2 < n; omega
  · show min t.1 t.2 ≠ max t.1 t.2; omega
abbrev webD (n : Nat) (ts : List (Int × Int)) : PyData := .tuple [.int n, .tuple (ts.map tieD)]
theorem WebAt.dp {K : PySem.W.Frag} {H : Hp} {v : V} {n : Nat} {ts : List (Int × Int)} (h : WebAt H v n ts) : Dp K H v (webD n ts) := by
  obtain ⟨r, t, xs, rfl, h1, h2, h3⟩ := h.at_
  exact .tup (SqT.of h1) (.cons (.int _) (.cons (.tup (SqT.of h2) (dp_ties h3)) .nil))
theorem web_show {n : Nat} {ts : List (Int × Int)} (n9 : n ≤ 9) (few : ts.length ≤ 30) (ok : ∀ t ∈ ts, PairOk n t) : Shows (webD n ts) := by
  have f := fit_tuple (fit_cons ((fit_int (i := (n : Int)) (k := 5) (by decide) (by decide) (by omega)).up (Nat.le_refl _) (Nat.zero_le 2)) (fit_cons (fit_tuple (fit_ties n9 ok)) (fit_nil.up (Nat.le_refl _) (Nat.zero_le 2))))
  exact f.shows rfl (by omega) (by decide)
theorem eqv_tie (t : Int × Int) : PyData.eqv (tieD t) (tieD t) = true := by
  simp [PyData.eqv, PyData.eqvAll]
theorem eqvAll_ties : ∀ ts : List (Int × Int), PyData.eqvAll (ts.map tieD) (ts.map tieD) = true
  | [] => by simp [PyData.eqvAll]
  | t :: ts => by
    show PyData.eqvAll (tieD t :: ts.map tieD) (tieD t :: ts.map tieD) = true
    rw [PyData.eqvAll, eqvAll_ties ts, eqv_tie]
    rfl
theorem eqv_ties (ts : List (Int × Int)) : PyData.eqv (.list (ts.map tieD)) (.list (ts.map tieD)) = true := by
  simp only [PyData.eqv]
  exact eqvAll_ties ts
/-- all but the table is as it was, the table is one -/
structure Fz (T : Addr) (H H' : Hp) : Prop where
  fro : Fro T H H'
  tab : TabG H' T
theorem Fz.same {T : Addr} {H H1 H2 : Hp} (a : Fz T H H1) (b : Same H1 H2) : Fz T H H2 := ⟨a.fro.trans (Fro.same b), tabG_keep a.tab fun ps e => b _ _ e⟩
theorem Fz.new {T p : Addr} {H H1 : Hp} {u : HO} (a : Fz T H H1) (n : H1 p = none) : Fz T H (upd H1 p u) := a.same (same_new n)
theorem Fz.then {T : Addr} {H H1 H2 : Hp} (a : Fz T H H1) (b : Fro T H1 H2) (c : TabG H2 T) : Fz T H H2 := ⟨a.fro.trans b, c⟩
theorem Fz.put {T p : Addr} {H H1 : Hp} {ys : List V} {u : HO} (a : Fz T H H1) (n : H p = none) (e : H1 p = some (.lst ys)) : Fz T H (upd H1 p u) := by
  refine ⟨fun q o m h => ?_, tabG_keep a.tab fun ps e' => ?_⟩
  · rw [upd_ne (ne_of_none h n)]
    exact a.fro q o m h
  · rw [upd_ne (ne_of e' e (by intro z; cases z))]
    exact e'
theorem Fz.refl {T : Addr} {H : Hp} (t : TabG H T) : Fz T H H := ⟨Fro.refl T H, t⟩
theorem Fz.back {T q : Addr} {H H' : Hp} (f : Fz T H H') (hT : TabG H T) (n : H' q = none) : H q = none := by
  refine f.fro.back (fun e => ?_) n
  obtain ⟨ps, e1, _⟩ := f.tab
  rw [e, e1] at n
  cases n
theorem Fz.tup {T : Addr} {H H' : Hp} (f : Fz T H H') (t : TabG H T) : TupK H H' := TupK.tab t f.fro
theorem PairsAt.fz {T l : Addr} {H H' : Hp} {n : Nat} {ts : List (Int × Int)} (h : PairsAt H l n ts) (t : TabG H T) (f : Fz T H H') : PairsAt H' l n ts := by
  obtain ⟨xs, h1, h2⟩ := h.at_
  exact ⟨⟨xs, f.fro _ _ (SeqIs.ne t (.inl h1)) h1, h2.mono (f.tup t)⟩, h.ok, h.few⟩
abbrev rReprD (K : PySem.W.Frag) : List V → Hp → VK → Prop := fun xs H Q => ∃ x d, xs = [x] ∧ Dp K H x d ∧ Shows d ∧ Q (.str d.shown) H
section
variable {P : Program} {w : World} {K : PySem.W.Frag} {mg : Str → Option Value} {b0 : Heap}
abbrev nRight : List Str := ["_law_places", "_law_pairs_here", "_law_due", "_law_handed", "_law_told", "_law_some", "_law_pair_here", "_law_web"]
theorem scRight : FnScope nRight ["_law_places", "_law_pairs_here"] (defScope sRight) := ⟨rfl, rfl, rfl, by decide +kernel, rfl, by decide +kernel, by decide +kernel⟩
def spRight (T : Addr) : Sp := fun vs H Q _ => ∃ (n : Nat) (l : Addr) (ts : List (Int × Int)), vs = [.int n, .ref l] ∧ 1 ≤ n ∧ n ≤ 9 ∧ PairsAt H l n ts ∧ TabG H T ∧ ∀ H', Fz T H H' → Q (.bl true) H'
theorem ok_right {T f fM : Addr} {fd fdM : FuncData} {k : Nat} (F : Fun K "_law_right" "_law_right" sRight f fd) (FM : Fun K "made_web" "made_web" sMade fM fdM) (bM : Binds K fdM ["places", "ties"] []) (gM : mg "made_web" = some (.ref fM))
    (GM : FnOk P w K mg b0 CX0 (k + 5) fM fdM ["places", "ties"] (spMade T))
    (mtu : mg "tuple" = none) (mli : mg "list" = none) (mmi : mg "min" = none) (mma : mg "max" = none) (mre : mg "repr" = none) : FnG P w K mg b0 CX0 (k + 6) f fd ["_law_places", "_law_pairs_here"] (spRight T) := by
  refine FunG.ok F scRight (fun vs H Q E h => ?_) (fun cdv A outer s H vs Q E hg hr h => ?_)
  · obtain ⟨n, l, ts, rfl, _⟩ := h
    rfl
  · obtain ⟨n, l, ts, rfl, h1, h9, hl, tg, q⟩ := h
    refine ⟨_, pss_cons (ps_set (i := 2) scRight.nd rfl (.inl rfl) (pe_callB (call_reprD hg hr.units) (by rfl) mre (by decide +kernel) (pa_cons (pe_tup (pa_cons (pv 0) (pa_cons (pe_callTy call_tuple_of (by rfl) mtu (by decide +kernel) (pa_cons
        (pe_lc (own := [("_law_pair_here", 6)]) (g := gName 6) (tt := tYes) rfl scRight.nd (pi_list (pv 1)) (blkOk_by (N := nRight) (sc := defScope sRight) (by decide +kernel))
          (fun _ _ _ _ _ => pg_name (i := 6) scRight.nd rfl (.inl rfl)) (fun _ _ _ _ _ => pts_nil)
          (fun _ _ _ _ _ => pe_tup (pa_cons (pe_callB (id := "min") (r := rMinT K) (call_minT rfl hr.units) (by rfl) mmi (by decide +kernel) (pa_cons (pv 6) pa_nil)) (pa_cons (pe_callB (id := "max") (r := rMaxT K) (call_maxT rfl hr.units) (by rfl) mma (by decide +kernel) (pa_cons (pv 6) pa_nil)) pa_nil)))) pa_nil)) pa_nil))) pa_nil)))
      (pss_cons (ps_set (i := 3) scRight.nd rfl (.inl rfl) (pe_callTy call_list_of (by rfl) mli (by decide +kernel) (pa_cons (pv 1) pa_nil)))
      (pss_cons (ps_set (i := 4) scRight.nd rfl (.inl rfl) (pe_call GM hr (by rfl) gM FM.kp bM .nil pass0 (pa_cons (pv 0) (pa_cons (pv 3) pa_nil))))
      (pss_cons (ps_if (PW.pt (pw_or (pt_cmpR op_ne (pe_callB (call_reprD hg hr.units) (by rfl) mre (by decide +kernel) (pa_cons (pv 4) pa_nil)) (pv 2) (nomark _)) (pw_or1 (pt_cmpR (op_neD hr.units) (pv 3) (pv 1) (nomark _))))) (pss_one (ps_ret pe_bl)) pss_nil)
      (pss_cons (ps_expr (pe_bm0 PySem.F.plainAttrs_list PySem.F.slot_list_reverse PySem.F.type_list_reverse mt_reverse (pv 3)))
      (pss_cons (ps_expr (pe_bm PySem.F.plainAttrs_list PySem.F.slot_list_append PySem.F.type_list_append mt_append (pv 3) (pa_cons (pe_tup (pa_cons pe_int (pa_cons pe_int pa_nil))) pa_nil)))
      (pss_cons (ps_set (i := 5) scRight.nd rfl (.inl rfl) (pe_lst (pa_cons (pe_call GM hr (by rfl) gM FM.kp bM .nil pass0 (pa_cons (pv 0) (pa_cons (pe_callTy call_tuple_of (by rfl) mtu (by decide +kernel) (pa_cons (pv 1) pa_nil)) pa_nil)))
        (pa_cons (pe_call GM hr (by rfl) gM FM.kp bM .nil pass0 (pa_cons (pv 0) (pa_cons (pe_ix ix_tup (pv 4) pe_int (fun _ _ => rfl)) pa_nil)))
        (pa_cons (pe_call GM hr (by rfl) gM FM.kp bM .nil pass0 (pa_cons (pv 0) (pa_cons
          (pe_lc (own := [("_law_pair_here", 6)]) (g := gName 6) (tt := tYes) rfl scRight.nd (pi_list (pv 1)) (blkOk_by (N := nRight) (sc := defScope sRight) (by decide +kernel))
            (fun _ _ _ _ _ => pg_name (i := 6) scRight.nd rfl (.inl rfl)) (fun _ _ _ _ _ => pts_nil) (te := tRevP K (tVar 6)) (fun _ _ _ _ _ => pe_revP (pv 6))) pa_nil))) pa_nil)))))
      (pss_one (ps_ret (pe_cmpR (op_eqV hr.units) (pe_lc (own := [("_law_web", 7)]) (g := gName 7) (tt := tYes) rfl scRight.nd (pi_list (pe_op op_cat (pv 5) (pe_lst (pa_cons (pv 4) pa_nil)))) (blkOk_by (N := nRight) (sc := defScope sRight) (by decide +kernel))
            (fun _ _ _ _ _ => pg_name (i := 7) scRight.nd rfl (.inl rfl)) (fun _ _ _ _ _ => pts_nil) (fun _ _ _ _ _ => pe_callB (id := "repr") (r := rReprD K) (call_reprD hg hr.units) (by rfl) mre (by decide +kernel) (pa_cons (pv 7) pa_nil)))
          (pe_op op_rep (pe_lst (pa_cons (pv 2) pa_nil)) pe_int) (nomark _)))))))))), ?_⟩
    obtain ⟨xs, hlx, hT⟩ := hl.at_
    have ok := hl.ok
    have few := hl.few
    have hxl : xs.length = ts.length := Paired.length hT
    have okN : ∀ t ∈ ts.map norm, PairOk n t := fun t ht => by
      obtain ⟨u, hu, rfl⟩ := List.mem_map.mp ht
      exact (ok u hu).norm
    have fewN : (ts.map norm).length ≤ 30 := by rw [List.length_map]; exact few
    have shw : Shows (webD n (ts.map norm)) := web_show h9 fewN okN
    -- due
    refine ⟨_, rfl, _, rfl, l, rfl, ⟨xs, SqL.of hlx⟩, fun D nD => ?_⟩
    have lD : l ≠ D := ne_of_none hlx nD
    refine lc_list (K := K) (a := l) (xs := xs) (fun j H4 => Same H H4 ∧ ∃ ys, H4 D = some (.lst ys) ∧ TiesAt H4 ys ((ts.take j).map norm) ∧ ys.length = j)
      ⟨same_new nD, [], upd_same, .nil, rfl⟩ (fun j H4 _ h => SqL.of (h.1 _ _ hlx)) (fun j x H4 hx h => ?_) (fun H1 h => ?_)
    · obtain ⟨s4, ys, hD, hY, hyl⟩ := h
      obtain ⟨t, ht, a, rfl, ha⟩ := TiesAt.at (hT.mono (TupK.same s4)) hx
      have hj : j < ts.length := (List.getElem?_eq_some_iff.mp ht).1
      refine ⟨rfl, _, rfl, a, t.1, [t.2], rfl, SqT.of ha, _, rfl, a, t.1, [t.2], rfl, SqT.of ha, by show 2 ≤ sizeLine; decide, fun u nu => ?_⟩
      have Du : D ≠ u := ne_of_none hD nu
      refine ⟨ys, by rw [upd_ne Du]; exact hD, small1000 (by omega), fun b o hb => ?_, ys ++ [.ref u], upd_same, ?_, by rw [List.length_append, hyl]; rfl⟩
      · rw [upd_ne (ne_of_none hb nD), upd_ne (ne_of_none (s4 _ _ hb) nu)]
        exact s4 _ _ hb
      · rw [take_succ ht, List.map_append]
        refine paired_snoc (TiesAt.mono ((TupK.new nu).trans (TupK.lst (ys := ys) (by rw [upd_ne Du]; exact hD))) hY) ⟨u, rfl, ?_⟩
        rw [upd_ne Du.symm, upd_same, norm_eq]
        rfl
    obtain ⟨s1, ys, hD, hY, hyl⟩ := h
    have hY : TiesAt H1 ys (ts.map norm) := by
      rw [hxl, List.take_length] at hY
      exact hY
    refine ⟨D, _, rfl, .inl ⟨SqL.of hD, fun tu ntu => ⟨by show 2 ≤ sizeLine; decide, fun wb nwb => ?_⟩⟩⟩
    have tw : tu ≠ wb := ne_of_none upd_same nwb
    have W0 : WebAt (upd (upd H1 tu (.tup ys)) wb (.tup [.int n, .ref tu])) (.ref wb) n (ts.map norm) :=
      ⟨wb, tu, ys, rfl, upd_same, by rw [upd_ne tw, upd_same], TiesAt.mono ((TupK.new ntu).trans (TupK.new nwb)) hY⟩
    refine ⟨_, _, rfl, W0.dp, shw, ?_⟩
    have z3 : Fz T H (upd (upd H1 tu (.tup ys)) wb (.tup [.int n, .ref tu])) := (((Fz.refl tg).same s1).new ntu).new nwb
    generalize upd (upd H1 tu (.tup ys)) wb (.tup [.int n, .ref tu]) = H3 at z3
    -- handed
    have p3 := hl.fz tg z3
    have hl3 : H3 l = some (.lst xs) := z3.fro _ _ (SeqIs.ne tg (.inl hlx)) hlx
    have hT3 : TiesAt H3 xs ts := hT.mono (z3.tup tg)
    refine ⟨_, rfl, l, _, rfl, .inl (SqL.of hl3), fun h nh => ?_⟩
    have nhH : H h = none := z3.back tg nh
    have lh : l ≠ h := ne_of_none hl3 nh
    have z4 := z3.new (u := .lst xs) nh
    -- told
    refine ⟨_, rfl, _, rfl, n, h, xs, ts, rfl, h1, h9, .inl upd_same, hT3.mono (TupK.new nh), ok, few, z4.tab, fun v H5 f5 t5 W5 => ?_⟩
    have z5 := z4.then f5 t5
    have hh5 : H5 h = some (.lst xs) := f5 _ _ (SeqIs.ne z4.tab (.inl upd_same)) upd_same
    have hl5 : H5 l = some (.lst xs) := z5.fro _ _ (SeqIs.ne tg (.inl hlx)) hlx
    have hT5 : TiesAt H5 xs ts := hT.mono (z5.tup tg)
    refine ⟨_, rfl, v, _, rfl, W5.dp, shw, _, rfl, rfl, _, rfl, ?_⟩
    rw [decide_eq_true rfl]
    refine iteF ?_
    have fs : Fit (.list (ts.map tieD)) (13 * ts.length) 2 := fit_list (fit_ties h9 ok)
    refine ⟨_, rfl, _, rfl, .list (ts.map tieD), .list (ts.map tieD), .lst (SqL.of hh5) (dp_ties hT5), .lst (SqL.of hl5) (dp_ties hT5), fs.shaped (by decide), fs.shaped (by decide), _, rfl, ?_⟩
    rw [eqv_ties]
    refine iteF ?_
    -- handed.reverse()
    refine ⟨_, rfl, .inl ⟨rfl, _, SqL.of hh5⟩, h, xs, rfl, rfl, hh5, ?_⟩
    have z6 := z5.put (u := .lst xs.reverse) nhH hh5
    have k6 : TupK H5 (upd H5 h (.lst xs.reverse)) := TupK.lst hh5
    -- handed.append((0, 0))
    refine ⟨_, rfl, .inl ⟨rfl, _, SqL.of upd_same⟩, by show 2 ≤ sizeLine; decide, fun e ne => ?_⟩
    have he : h ≠ e := ne_of_none upd_same ne
    have hh7 : (upd (upd H5 h (.lst xs.reverse)) e (.tup [.int 0, .int 0])) h = some (.lst xs.reverse) := by rw [upd_ne he, upd_same]
    refine ⟨h, _, _, rfl, rfl, hh7, small1000 (by rw [List.length_reverse]; omega), ?_⟩
    have z8 := (z6.new (u := .tup [.int 0, .int 0]) ne).put (u := .lst (xs.reverse ++ [.ref e])) nhH hh7
    have k8 := (k6.trans (TupK.new (u := .tup [.int 0, .int 0]) ne)).trans (TupK.lst (u := .lst (xs.reverse ++ [.ref e])) hh7)
    have W8 := W5.mono k8
    generalize upd (upd (upd H5 h (.lst xs.reverse)) e (.tup [.int 0, .int 0])) h (.lst (xs.reverse ++ [.ref e])) = H8 at z8 W8
    have hl8 : H8 l = some (.lst xs) := z8.fro _ _ (SeqIs.ne tg (.inl hlx)) hlx
    -- made of a tuple
    refine ⟨_, rfl, _, rfl, l, _, rfl, .inl ⟨SqL.of hl8, fun t1 nt1 => ?_⟩⟩
    have z9 := z8.new (u := .tup xs) nt1
    refine ⟨n, t1, xs, ts, rfl, h1, h9, .inr upd_same, hT.mono (z9.tup tg), ok, few, z9.tab, fun v1 H10 f10 t10 W10 => ?_⟩
    have z10 := z9.then f10 t10
    have W10v := (W8.mono (TupK.new (u := .tup xs) nt1)).mono (TupK.tab z9.tab f10)
    obtain ⟨r, t, vs, rfl, hv1, hv2, hv3⟩ := W10v.at_
    -- made of what was told
    refine ⟨_, rfl, _, rfl, r, _, 1, _, rfl, rfl, SqT.of hv1, rfl, ?_⟩
    refine ⟨n, t, vs, ts.map norm, rfl, h1, h9, .inr hv2, hv3, okN, fewN, z10.tab, fun v2 H11 f11 t11 W11 => ?_⟩
    have eNN : (ts.map norm).map norm = ts.map norm := by
      rw [List.map_map]
      exact List.map_congr_left fun t _ => norm_norm t
    rw [eNN] at W11
    have z11 := z10.then f11 t11
    have k11 := TupK.tab z10.tab f11
    have hl11 : H11 l = some (.lst xs) := z11.fro _ _ (SeqIs.ne tg (.inl hlx)) hlx
    have hT11 : TiesAt H11 xs ts := hT.mono (z11.tup tg)
    have W11a := W10.mono k11
    have W11v := W10v.mono k11
    -- made of all turned about
    refine ⟨_, rfl, _, rfl, l, rfl, ⟨xs, SqL.of hl11⟩, fun D2 nD2 => ?_⟩
    refine lc_list (K := K) (a := l) (xs := xs) (fun j H4 => Same H11 H4 ∧ ∃ ys, H4 D2 = some (.lst ys) ∧ TiesAt H4 ys ((ts.take j).map swap) ∧ ys.length = j)
      ⟨same_new nD2, [], upd_same, .nil, rfl⟩ (fun j H4 _ h => SqL.of (h.1 _ _ hl11)) (fun j x H4 hx h => ?_) (fun H12 h => ?_)
    · obtain ⟨s4, ys, hD, hY, hyl⟩ := h
      obtain ⟨t, ht, a, rfl, ha⟩ := TiesAt.at (hT11.mono (TupK.same s4)) hx
      have hj : j < ts.length := (List.getElem?_eq_some_iff.mp ht).1
      refine ⟨rfl, _, rfl, a, _, _, rfl, SqT.of ha, fun u nu => ?_⟩
      have Du : D2 ≠ u := ne_of_none hD nu
      refine ⟨ys, by rw [upd_ne Du]; exact hD, small1000 (by omega), fun b o hb => ?_, ys ++ [.ref u], upd_same, ?_, by rw [List.length_append, hyl]; rfl⟩
      · rw [upd_ne (ne_of_none hb nD2), upd_ne (ne_of_none (s4 _ _ hb) nu)]
        exact s4 _ _ hb
      · rw [take_succ ht, List.map_append]
        refine paired_snoc (TiesAt.mono ((TupK.new nu).trans (TupK.lst (ys := ys) (by rw [upd_ne Du]; exact hD))) hY) ⟨u, rfl, ?_⟩
        rw [upd_ne Du.symm, upd_same]
    obtain ⟨s12, zs, hD12, hZ, hzl⟩ := h
    have hZ : TiesAt H12 zs (ts.map swap) := by
      rw [hxl, List.take_length] at hZ
      exact hZ
    have z12 := z11.same s12
    refine ⟨n, D2, zs, ts.map swap, rfl, h1, h9, .inl hD12, hZ, fun t ht => ?_, by rw [List.length_map]; exact few, z12.tab, fun v3 H13 f13 t13 W13 => ?_⟩
    · obtain ⟨u, hu, rfl⟩ := List.mem_map.mp ht
      exact (ok u hu).turn
    have eNS : (ts.map swap).map norm = ts.map norm := by
      rw [List.map_map]
      exact List.map_congr_left fun t _ => norm_swap t
    rw [eNS] at W13
    have z13 := z12.then f13 t13
    have k13 := (TupK.same s12).trans (TupK.tab z12.tab f13)
    have Wa := W11a.mono k13
    have Wb := W11.mono k13
    have Wc := W13
    have Wd := W11v.mono k13
    refine ⟨by show 3 ≤ sizeLine; decide, fun so nso => ?_⟩
    -- all four, written out
    refine ⟨_, rfl, _, rfl, by show 1 ≤ sizeLine; decide, fun tl ntl => ?_⟩
    have sot : so ≠ tl := ne_of_none upd_same ntl
    refine ⟨so, tl, _, _, rfl, rfl, by rw [upd_ne sot, upd_same], upd_same, by show 4 ≤ sizeLine; decide, fun ca nca => ?_⟩
    have z16 := ((z13.new (u := .lst [v1, v2, v3]) nso).new (u := .lst [.ref r]) ntl).new (u := .lst [v1, v2, v3, .ref r]) nca
    have k16 := ((TupK.new (u := .lst [v1, v2, v3]) nso).trans (TupK.new (u := .lst [.ref r]) ntl)).trans (TupK.new (u := .lst [v1, v2, v3, .ref r]) nca)
    refine ⟨ca, rfl, ⟨_, SqL.of upd_same⟩, fun D3 nD3 => ?_⟩
    have hca : (upd (upd (upd H13 so (.lst [v1, v2, v3])) tl (.lst [.ref r])) ca (.lst [v1, v2, v3, .ref r])) ca = some (.lst [v1, v2, v3, .ref r]) := upd_same
    have Va := Wa.mono k16
    have Vb := Wb.mono k16
    have Vc := Wc.mono k16
    have Vd := Wd.mono k16
    rw [show [v1, v2, v3] ++ [V.ref r] = [v1, v2, v3, V.ref r] from rfl] at nD3 ⊢
    generalize upd (upd (upd H13 so (.lst [v1, v2, v3])) tl (.lst [.ref r])) ca (.lst [v1, v2, v3, .ref r]) = H16 at z16 nD3 hca Va Vb Vc Vd
    have caD : ca ≠ D3 := ne_of_none hca nD3
    refine lc_list (K := K) (a := ca) (xs := [v1, v2, v3, .ref r]) (fun j H4 => H4 = upd H16 D3 (.lst (List.replicate j (.str (webD n (ts.map norm)).shown))))
      rfl (fun j H4 _ h => SqL.of (by rw [h, upd_ne caD]; exact hca)) (fun j x H4 hx h => ?_) (fun H4 h => ?_)
    · subst h
      have hx4 : ∃ hj : j < 4, WebAt H16 x n (ts.map norm) := by
        match j, hx with
        | 0, hx => cases hx; exact ⟨by decide, Va⟩
        | 1, hx => cases hx; exact ⟨by decide, Vb⟩
        | 2, hx => cases hx; exact ⟨by decide, Vc⟩
        | 3, hx => cases hx; exact ⟨by decide, Vd⟩
        | j + 4, hx => simp at hx
      obtain ⟨hj, Wx⟩ := hx4
      refine ⟨rfl, _, rfl, x, _, rfl, (Wx.mono (TupK.new nD3)).dp, shw, _, upd_same, small1000 (by rw [List.length_replicate]; omega), ?_⟩
      rw [upd_upd, ← List.replicate_succ']
    subst h
    refine ⟨_, rfl, by show 1 ≤ sizeLine; decide, fun d1 nd1 => ?_⟩
    refine ⟨d1, 4, _, rfl, rfl, upd_same, by decide, by decide, by show 4 ≤ sizeLine; decide, fun d2 nd2 => ?_⟩
    have hD3 : (upd H16 D3 (.lst (List.replicate 4 (V.str (webD n (ts.map norm)).shown)))) D3 = some (.lst (List.replicate 4 (V.str (webD n (ts.map norm)).shown))) := upd_same
    have b1 : D3 ≠ d1 := ne_of_none hD3 nd1
    have b2 : D3 ≠ d2 := ne_of_none (by rw [upd_ne b1]; exact hD3) nd2
    refine ⟨1, by decide, .inl ⟨D3, d2, List.replicate 4 (V.str (webD n (ts.map norm)).shown), _, rfl, rfl, SqL.of (by rw [upd_ne b2, upd_ne b1]; exact hD3), SqL.of upd_same, ?_⟩, ?_⟩
    · exact .cons (.inl ⟨rfl, rfl⟩) (.cons (.inl ⟨rfl, rfl⟩) (.cons (.inl ⟨rfl, rfl⟩) (.cons (.inl ⟨rfl, rfl⟩) .nil)))
    · exact q _ (((z16.new nD3).new nd1).new nd2)
end
end TA
set_option maxHeartbeats 8000000
namespace TA
open PySem PySem.Spec PyProof.Rows L2
open GxR (TabB TabG Tabbed)
theorem sqL_fz {K : PySem.W.Frag} {H H' : Hp} {a T : Addr} {xs : List V} (t : TabG H T) (f : Fz T H H') (h : SqL K H a xs) : SqL K H' a xs := by
  rcases h with (h | ⟨o, h⟩) | h
  · exact .inl (.inl (f.fro _ _ (tabG_ne t fun ps e => by rw [h] at e; cases e) h))
  · exact .inl (.inr ⟨o, f.fro _ _ (tabG_ne t fun ps e => by rw [h] at e; cases e) h⟩)
  · exact .inr h
theorem Fz.trans {T : Addr} {H H1 H2 : Hp} (a : Fz T H H1) (b : Fz T H1 H2) : Fz T H H2 := ⟨a.fro.trans b.fro, b.tab⟩
def Elder (H : Hp) (e : Addr) : Prop := ∃ (n : Nat) (l : Addr) (ts : List (Int × Int)), H e = some (.tup [.int n, .ref l]) ∧ 1 ≤ n ∧ n ≤ 9 ∧ PairsAt H l n ts
theorem Elder.fz {T e : Addr} {H H' : Hp} (h : Elder H e) (t : TabG H T) (f : Fz T H H') : Elder H' e := by
  obtain ⟨n, l, ts, h1, h2, h3, h4⟩ := h
  exact ⟨n, l, ts, f.tup t _ _ h1, h2, h3, h4.fz t f⟩
section
variable {P : Program} {w : World} {K : PySem.W.Frag} {mg : Str → Option Value} {b0 : Heap}
abbrev nLaw : List Str := ["_law_script", "_law_elder", "_law_k", "_law_pot_here", "_law_places", "_law_pairs_here"]
theorem scLaw : FnScope nLaw ["_law_script"] (defScope sLaw) := ⟨rfl, rfl, rfl, by decide +kernel, rfl, by decide +kernel, by decide +kernel⟩
def spLaw (K : PySem.W.Frag) (T : Addr) : Sp := fun vs H Q _ => ∃ (a : Addr) (ns : List Int), vs = [.ref a] ∧ SqL K H a (ns.map V.int) ∧ ns.length ≤ 63 ∧ TabG H T ∧ ∀ H', Q (.bl true) H'
theorem ok_law {T c f fN fO fT fA fB fR fM fU fI fQ fW : Addr} {fd fdN fdO fdT fdA fdB fdR fdM fdU fdI fdQ fdW : FuncData} (F : Fun K "law" "law" sLaw f fd)
    (hcd : fdM.code = .ref c) (TB : TabB b0 mg c T)
    (FN : Fun K "_law_nth" "_law_nth" sNth fN fdN) (bN : Binds K fdN ["_law_script", "_law_k"] []) (gN : mg "_law_nth" = some (.ref fN))
    (FO : Fun K "_law_pot" "_law_pot" sPot fO fdO) (bO : Binds K fdO ["_law_script", "_law_k"] []) (gO : mg "_law_pot" = some (.ref fO))
    (FT : Fun K "_law_take" "_law_take" sTake fT fdT) (bT : Binds K fdT ["_law_pot_here", "_law_many"] []) (gT : mg "_law_take" = some (.ref fT))
    (FA : Fun K "_law_pair" "_law_pair" sLPair fA fdA) (bA : Binds K fdA ["_law_pot_here", "_law_places", "_law_found"] []) (gA : mg "_law_pair" = some (.ref fA))
    (FB : Fun K "_law_pairs" "_law_pairs" sLPairs fB fdB) (bB : Binds K fdB ["_law_pot_here", "_law_places"] []) (gB : mg "_law_pairs" = some (.ref fB))
    (FR : Fun K "_law_right" "_law_right" sRight fR fdR) (bR : Binds K fdR ["_law_places", "_law_pairs_here"] []) (gR : mg "_law_right" = some (.ref fR))
    (FM : Fun K "made_web" "made_web" sMade fM fdM) (bM : Binds K fdM ["places", "ties"] []) (gM : mg "made_web" = some (.ref fM))
    (FU : Fun K "refuse_layout" "refuse_layout" sRefuse fU fdU) (bU : Binds K fdU ["places", "pairs", "most"] []) (gU : mg "refuse_layout" = some (.ref fU))
    (FI : Fun K "is_pair" "is_pair" sPair fI fdI) (bI : Binds K fdI ["places", "thing"] []) (gI : mg "is_pair" = some (.ref fI))
    (FQ : Fun K "is_place" "is_place" sPlace fQ fdQ) (bQ : Binds K fdQ ["places", "thing"] []) (gQ : mg "is_place" = some (.ref fQ))
    (FW : Fun K "is_whole" "is_whole" sWhole fW fdW) (bW : Binds K fdW ["thing"] []) (gW : mg "is_whole" = some (.ref fW))
    {fS : Addr} {fdS : FuncData} (FS : Fun K "refuse_size" "refuse_size" sSize fS fdS) (bS : Binds K fdS ["places"] []) (gS : mg "refuse_size" = some (.ref fS)) 
    {t9 t30 : Tok} (g9 : mg "MOST_PLACES" = some (.int 9 t9)) (g30 : mg "MOST_TIES" = some (.int 30 t30))
    (mra : mg "range" = none) (mli : mg "list" = none) (mmi : mg "min" = none) (mma : mg "max" = none) (mre : mg "repr" = none) (mtu : mg "tuple" = none)
    (ml : mg "len" = none) (mab : mg "abs" = none) (md : mg "divmod" = none) (mint : mg "int" = none) (mis : mg "isinstance" = none) (mbo : mg "bool" = none) (men : mg "enumerate" = none) :
    FnG P w K mg b0 CX0 7 f fd ["_law_script"] (spLaw K T) := by
  have GO : FnOk P w K mg b0 CX0 2 fO fdO ["_law_script", "_law_k"] (spPot K) := ok_pot FO FN bN gN ml mma mab
  have GT : FnOk P w K mg b0 CX0 1 fT fdT ["_law_pot_here", "_law_many"] spTake := ok_take FT md
  have GB : FnOk P w K mg b0 CX0 3 fB fdB ["_law_pot_here", "_law_places"] spLPairs := ok_lpairs FB FT bT gT FA bA gA md ml mra mint
  have GM : FnOk P w K mg b0 CX0 5 fM fdM ["places", "ties"] (spMade T) := ok_made FM hcd TB FW bW gW FQ bQ gQ FI bI gI FU bU gU FS bS gS g9 g30 mis mint mbo mtu ml men mmi mma
  have GR : FnG P w K mg b0 CX0 6 fR fdR ["_law_places", "_law_pairs_here"] (spRight T) := ok_right FR FM bM gM GM mtu mli mmi mma mre
  refine FunG.ok F scLaw (fun vs H Q E h => ?_) (fun cdv A outer s H vs Q E hg hr h => ?_)
  · obtain ⟨a, ns, rfl, _⟩ := h
    rfl
  · obtain ⟨a, ns, rfl, hS, hlen, tg, q⟩ := h
    have h1 := hr.mono (j := 1) (by omega)
    have h2 := hr.mono (j := 2) (by omega)
    have h3 := hr.mono (j := 3) (by omega)
    refine ⟨_, pss_cons (ps_set (i := 1) scLaw.nd rfl (.inl rfl) (pe_tup (pa_cons pe_int (pa_cons (pe_lst pa_nil) pa_nil))))
      (pss_cons (ps_for PassesOwn.never rfl (pi_range1 (by rfl) mra (pa_cons (pe_callB (call_max2 rfl) (by rfl) mma (by decide +kernel) (pa_cons pe_int (pa_cons (pe_callB (call_min2 rfl) (by rfl) mmi (by decide +kernel) (pa_cons pe_int (pa_cons (pe_callB call_len_seq (by rfl) ml PySem.boot_len (pa_cons (pv 0) pa_nil)) pa_nil))) pa_nil))) pa_nil)) (pg_name (i := 2) scLaw.nd rfl (.inl rfl))
        (pss_cons (ps_set (i := 3) scLaw.nd rfl (.inl rfl) (pe_call GO h2 (by rfl) gO FO.kp bO .nil pass0 (pa_cons (pv 0) (pa_cons (pv 2) pa_nil))))
        (pss_cons (ps_set (i := 4) scLaw.nd rfl (.inl rfl) (pe_op op_add pe_int (pe_call GT h1 (by rfl) gT FT.kp bT .nil pass0 (pa_cons (pv 3) (pa_cons pe_int pa_nil)))))
        (pss_cons (ps_set (i := 5) scLaw.nd rfl (.inl rfl) (pe_call GB h3 (by rfl) gB FB.kp bB .nil pass0 (pa_cons (pv 3) (pa_cons (pv 4) pa_nil))))
        (pss_cons (ps_if (PW.pt (pw_or (pt_not (pt_val (pe_callG GR hg hr (by rfl) gR FR.kp bR .nil pass0 (pa_cons (pv 4) (pa_cons (pv 5) pa_nil)))))
            (pw_or1 (pt_not (pt_val (pe_callG GR hg hr (by rfl) gR FR.kp bR .nil pass0 (pa_cons (pe_ix ix_tup (pv 1) pe_int (fun _ _ => rfl)) (pa_cons (pe_ix ix_tup (pv 1) pe_int (fun _ _ => rfl)) pa_nil)))))))) (pss_one (ps_ret pe_bl)) pss_nil)
        (pss_one (ps_set (i := 1) scLaw.nd rfl (.inl rfl) (pe_tup (pa_cons (pv 4) (pa_cons (pv 5) pa_nil))))))))))
      (pss_one (ps_ret pe_bl))), ?_⟩
    -- elder
    refine ⟨Nat.zero_le _, fun l1 n3 => ⟨by show 2 ≤ sizeLine; decide, fun e0 n4 => ?_⟩⟩
    have z1 := ((Fz.refl tg).new (u := .lst []) n3).new (u := .tup [.int 1, .ref l1]) n4
    have E0' : Elder (upd (upd H l1 (.lst [])) e0 (.tup [.int 1, .ref l1])) e0 := by
      refine ⟨1, l1, [], upd_same, Nat.le_refl _, by decide, ⟨[], same_new n4 _ _ upd_same, .nil⟩, fun _ z => (nomatch z), Nat.zero_le _⟩
    refine ⟨_, rfl, a, _, rfl, .inl (sqL_fz tg z1 hS), _, _, rfl, _, _, rfl, _, rfl, ?_, ?_, ?_⟩
    · rw [List.length_map]
      split <;> split <;> omega
    · rw [List.length_map]
      split <;> split <;> omega
    rw [List.length_map]
    refine for_range (lo := 0) (fun i σ H3 => ∃ e y2 y3 y4 y5, σ = [some (.ref a), some (.ref e), y2, y3, y4, y5] ∧ Fz T H H3 ∧ Elder H3 e) ⟨e0, none, none, none, none, rfl, z1, E0'⟩ (fun i σ H3 hi hW => ?_) (fun σ H3 hW => ?_)
    · obtain ⟨e, y2, y3, y4, y5, rfl, z3, hE⟩ := hW
      have hi6 : i < 1000 := by
        revert hi
        split <;> split <;> omega
      rw [Int.zero_add]
      refine ⟨_, rfl, _, rfl, a, ns, i, rfl, hi6, sqL_fz tg z3 hS, fun p H4 np s4 p4 => ?_⟩
      -- places
      refine ⟨_, rfl, p, 9, rfl, by decide, by decide, p4, fun d H5 d0 d1 f5 p5 => ⟨_, _, rfl, rfl, ?_⟩⟩
      have s5 : Same H3 H5 := same_fro s4 np f5
      obtain ⟨n, hn⟩ : ∃ n : Nat, 1 + d = n := ⟨(1 + d).toNat, by omega⟩
      dsimp only
      rw [hn]
      have n1 : 1 ≤ n := by omega
      have n9 : n ≤ 9 := by omega
      -- pairs
      refine ⟨_, rfl, _, rfl, p, n, rfl, n1, n9, p5, fun l H6 ts nl f6 p6 PA => ?_⟩
      have s6 : Same H3 H6 := same_fro s5 np f6
      have z6 : Fz T H3 H6 := (Fz.refl z3.tab).same s6
      refine ⟨_, rfl, _, rfl, n, l, ts, rfl, n1, n9, PA, z6.tab, fun H7 z7 => ⟨_, rfl, ?_⟩⟩
      refine iteF ?_
      have E7 := (hE.fz z3.tab z6).fz z6.tab z7
      obtain ⟨ne, le, te, he1, he2, he3, he4⟩ := E7
      refine ⟨_, rfl, e, _, 0, _, rfl, rfl, SqT.of he1, rfl, _, rfl, e, _, 1, _, rfl, rfl, SqT.of he1, rfl, ne, le, te, rfl, he2, he3, he4, z7.tab, fun H8 z8 => ⟨_, rfl, ?_⟩⟩
      refine iteF ?_
      refine ⟨_, rfl, _, rfl, by show 2 ≤ sizeLine; decide, fun e2 n9' => ?_⟩
      have z68 : Fz T H6 (upd H8 e2 (.tup [.int n, .ref l])) := (z7.trans z8).new n9'
      exact ⟨e2, _, _, _, _, rfl, (z3.trans z6).trans z68, n, l, ts, upd_same, n1, n9, PA.fz z6.tab z68⟩
    · exact q _
end
end TA
set_option maxHeartbeats 4000000
namespace TA
open PySem PySem.Spec PyProof.Rows L2
theorem all_mk {l : PySem.W.OpenLaw} {w : World} {K : PySem.W.Frag} {h : Heap} {mg : Str → Option Value} {fa : Addr} (X : K.In h) (G : h.Ns mainGlobals mg) (hfa : mg "law" = some (.ref fa))
    {fN : Addr} {odN anN : Option Addr} {slN : Array (Option Value)} {ocN kVN dcN pmN ctN : Value} {cdN : Value}
    (aN : PySem.W.nsIn K mainGlobals "_law_nth" = some (some (.ref fN))) (lN : K.lookup fN = some ⟨ocN, odN, .func (PySem.W.fnOf "_law_nth" "_law_nth" (defArgs sNth) (defBody sNth) (defScope sNth) .none kVN dcN pmN anN cdN ctN), slN⟩)
    (cN : PySem.W.codeIn K cdN "_law_nth" = true) (kN : PySem.W.keepIn K (.ref fN) = true)
    {fO : Addr} {odO anO : Option Addr} {slO : Array (Option Value)} {ocO kVO dcO pmO ctO : Value} {cdO : Value}
    (aO : PySem.W.nsIn K mainGlobals "_law_pot" = some (some (.ref fO))) (lO : K.lookup fO = some ⟨ocO, odO, .func (PySem.W.fnOf "_law_pot" "_law_pot" (defArgs sPot) (defBody sPot) (defScope sPot) .none kVO dcO pmO anO cdO ctO), slO⟩)
    (cO : PySem.W.codeIn K cdO "_law_pot" = true) (kO : PySem.W.keepIn K (.ref fO) = true)
    {fT : Addr} {odT anT : Option Addr} {slT : Array (Option Value)} {ocT kVT dcT pmT ctT : Value} {cdT : Value}
    (aT : PySem.W.nsIn K mainGlobals "_law_take" = some (some (.ref fT))) (lT : K.lookup fT = some ⟨ocT, odT, .func (PySem.W.fnOf "_law_take" "_law_take" (defArgs sTake) (defBody sTake) (defScope sTake) .none kVT dcT pmT anT cdT ctT), slT⟩)
    (cT : PySem.W.codeIn K cdT "_law_take" = true) (kT : PySem.W.keepIn K (.ref fT) = true)
    {fA : Addr} {odA anA : Option Addr} {slA : Array (Option Value)} {ocA kVA dcA pmA ctA : Value} {cdA : Value}
    (aA : PySem.W.nsIn K mainGlobals "_law_pair" = some (some (.ref fA))) (lA : K.lookup fA = some ⟨ocA, odA, .func (PySem.W.fnOf "_law_pair" "_law_pair" (defArgs sLPair) (defBody sLPair) (defScope sLPair) .none kVA dcA pmA anA cdA ctA), slA⟩)
    (cA : PySem.W.codeIn K cdA "_law_pair" = true) (kA : PySem.W.keepIn K (.ref fA) = true)
    {fB : Addr} {odB anB : Option Addr} {slB : Array (Option Value)} {ocB kVB dcB pmB ctB : Value} {cdB : Value}
    (aB : PySem.W.nsIn K mainGlobals "_law_pairs" = some (some (.ref fB))) (lB : K.lookup fB = some ⟨ocB, odB, .func (PySem.W.fnOf "_law_pairs" "_law_pairs" (defArgs sLPairs) (defBody sLPairs) (defScope sLPairs) .none kVB dcB pmB anB cdB ctB), slB⟩)
    (cB : PySem.W.codeIn K cdB "_law_pairs" = true) (kB : PySem.W.keepIn K (.ref fB) = true)
    {fR : Addr} {odR anR : Option Addr} {slR : Array (Option Value)} {ocR kVR dcR pmR ctR : Value} {cdR : Value}
    (aR : PySem.W.nsIn K mainGlobals "_law_right" = some (some (.ref fR))) (lR : K.lookup fR = some ⟨ocR, odR, .func (PySem.W.fnOf "_law_right" "_law_right" (defArgs sRight) (defBody sRight) (defScope sRight) .none kVR dcR pmR anR cdR ctR), slR⟩)
    (cR : PySem.W.codeIn K cdR "_law_right" = true) (kR : PySem.W.keepIn K (.ref fR) = true)
    {fM : Addr} {odM anM : Option Addr} {slM : Array (Option Value)} {ocM kVM dcM pmM ctM : Value} {cM_ TM : Addr}
    (aM : PySem.W.nsIn K mainGlobals "made_web" = some (some (.ref fM))) (lM : K.lookup fM = some ⟨ocM, odM, .func (PySem.W.fnOf "made_web" "made_web" (defArgs sMade) (defBody sMade) (defScope sMade) .none kVM dcM pmM anM (.ref cM_) ctM), slM⟩)
    (cM : PySem.W.codeIn K (.ref cM_) "made_web" = true) (kM : PySem.W.keepIn K (.ref fM) = true)
    {eM : Value} {ddM : Option Addr} {usM : Array Value} {ssM : Array (Option Value)} (tM : K.lookup cM_ = some ⟨eM, ddM, .fields usM, ssM⟩) (iM : usM[11]? = some (.ref TM)) (nM : K.lookup TM = none)
    {fU : Addr} {odU anU : Option Addr} {slU : Array (Option Value)} {ocU kVU dcU pmU ctU : Value} {cdU : Value}
    (aU : PySem.W.nsIn K mainGlobals "refuse_layout" = some (some (.ref fU))) (lU : K.lookup fU = some ⟨ocU, odU, .func (PySem.W.fnOf "refuse_layout" "refuse_layout" (defArgs sRefuse) (defBody sRefuse) (defScope sRefuse) .none kVU dcU pmU anU cdU ctU), slU⟩)
    (cU : PySem.W.codeIn K cdU "refuse_layout" = true) (kU : PySem.W.keepIn K (.ref fU) = true)
    {fI : Addr} {odI anI : Option Addr} {slI : Array (Option Value)} {ocI kVI dcI pmI ctI : Value} {cdI : Value}
    (aI : PySem.W.nsIn K mainGlobals "is_pair" = some (some (.ref fI))) (lI : K.lookup fI = some ⟨ocI, odI, .func (PySem.W.fnOf "is_pair" "is_pair" (defArgs sPair) (defBody sPair) (defScope sPair) .none kVI dcI pmI anI cdI ctI), slI⟩)
    (cI : PySem.W.codeIn K cdI "is_pair" = true) (kI : PySem.W.keepIn K (.ref fI) = true)
    {fQ : Addr} {odQ anQ : Option Addr} {slQ : Array (Option Value)} {ocQ kVQ dcQ pmQ ctQ : Value} {cdQ : Value}
    (aQ : PySem.W.nsIn K mainGlobals "is_place" = some (some (.ref fQ))) (lQ : K.lookup fQ = some ⟨ocQ, odQ, .func (PySem.W.fnOf "is_place" "is_place" (defArgs sPlace) (defBody sPlace) (defScope sPlace) .none kVQ dcQ pmQ anQ cdQ ctQ), slQ⟩)
    (cQ : PySem.W.codeIn K cdQ "is_place" = true) (kQ : PySem.W.keepIn K (.ref fQ) = true)
    {fW : Addr} {odW anW : Option Addr} {slW : Array (Option Value)} {ocW kVW dcW pmW ctW : Value} {cdW : Value}
    (aW : PySem.W.nsIn K mainGlobals "is_whole" = some (some (.ref fW))) (lW : K.lookup fW = some ⟨ocW, odW, .func (PySem.W.fnOf "is_whole" "is_whole" (defArgs sWhole) (defBody sWhole) (defScope sWhole) .none kVW dcW pmW anW cdW ctW), slW⟩)
    (cW : PySem.W.codeIn K cdW "is_whole" = true) (kW : PySem.W.keepIn K (.ref fW) = true)
    {fS : Addr} {odS anS : Option Addr} {slS : Array (Option Value)} {ocS kVS dcS pmS ctS : Value} {cdS : Value}
    (aS : PySem.W.nsIn K mainGlobals "refuse_size" = some (some (.ref fS))) (lS : K.lookup fS = some ⟨ocS, odS, .func (PySem.W.fnOf "refuse_size" "refuse_size" (defArgs sSize) (defBody sSize) (defScope sSize) .none kVS dcS pmS anS cdS ctS), slS⟩)
    (cS : PySem.W.codeIn K cdS "refuse_size" = true) (kS : PySem.W.keepIn K (.ref fS) = true)
    {fZ : Addr} {odZ anZ : Option Addr} {slZ : Array (Option Value)} {ocZ kVZ dcZ pmZ ctZ : Value} {cdZ : Value}
    (aZ : PySem.W.nsIn K mainGlobals "law" = some (some (.ref fZ))) (lZ : K.lookup fZ = some ⟨ocZ, odZ, .func (PySem.W.fnOf "law" "law" (defArgs sLaw) (defBody sLaw) (defScope sLaw) .none kVZ dcZ pmZ anZ cdZ ctZ), slZ⟩)
    (cZ : PySem.W.codeIn K cdZ "law" = true) (kZ : PySem.W.keepIn K (.ref fZ) = true)
    {t0 : Tok} (w0 : PySem.W.nsIn K mainGlobals "MOST_PLACES" = some (some (.int 9 t0)))
    {t1 : Tok} (w1 : PySem.W.nsIn K mainGlobals "MOST_TIES" = some (some (.int 30 t1)))
    (z0 : PySem.W.nsIn K mainGlobals "range" = some none)
    (z1 : PySem.W.nsIn K mainGlobals "list" = some none)
    (z2 : PySem.W.nsIn K mainGlobals "min" = some none)
    (z3 : PySem.W.nsIn K mainGlobals "max" = some none)
    (z4 : PySem.W.nsIn K mainGlobals "repr" = some none)
    (z5 : PySem.W.nsIn K mainGlobals "tuple" = some none)
    (z6 : PySem.W.nsIn K mainGlobals "len" = some none)
    (z7 : PySem.W.nsIn K mainGlobals "abs" = some none)
    (z8 : PySem.W.nsIn K mainGlobals "divmod" = some none)
    (z9 : PySem.W.nsIn K mainGlobals "int" = some none)
    (z10 : PySem.W.nsIn K mainGlobals "isinstance" = some none)
    (z11 : PySem.W.nsIn K mainGlobals "bool" = some none)
    (z12 : PySem.W.nsIn K mainGlobals "enumerate" = some none)
    : ∃ (fd : FuncData) (cs : List (Addr × Addr)) (sp : Sp), (∀ p ∈ cs, ∃ nm ∈ (["made_web"] : List Str), PySem.W.tabIn K nm = some p) ∧ (∀ p ∈ cs, K.lookup p.2 = none) ∧ (∀ (s : Shared) (v : Value), BindsTo s fd ⟨[v], []⟩ [("_law_script", v)]) ∧
      (∀ (H : Hp) (a : Addr) (ns : List Int), ns.length ≤ 63 → (∀ p ∈ cs, GxR.TabG H p.2) → SqL K H a (ns.map V.int) → sp [.ref a] H (fun v _ => v = .bl true) fun _ _ _ => False) ∧
      ∀ b0 : Heap, K.In b0 → b0.Ns mainGlobals mg → (∀ p ∈ cs, GxR.TabB b0 mg p.1 p.2) → FnG l.prog w K mg b0 CX0 7 fa fd ["_law_script"] sp := by
  have e := hfa.symm.trans (PySem.W.mg_of X G aZ)
  cases e
  have FN := fun_mk (st := sNth) lN cN kN
  have FO := fun_mk (st := sPot) lO cO kO
  have FT := fun_mk (st := sTake) lT cT kT
  have FA := fun_mk (st := sLPair) lA cA kA
  have FB := fun_mk (st := sLPairs) lB cB kB
  have FR := fun_mk (st := sRight) lR cR kR
  have FM := fun_mk (st := sMade) lM cM kM
  have FU := fun_mk (st := sRefuse) lU cU kU
  have FI := fun_mk (st := sPair) lI cI kI
  have FQ := fun_mk (st := sPlace) lQ cQ kQ
  have FW := fun_mk (st := sWhole) lW cW kW
  have FS := fun_mk (st := sSize) lS cS kS
  have FZ := fun_mk (st := sLaw) lZ cZ kZ
  have bN := FN.binds (ps := ["_law_script", "_law_k"]) fun _ _ _ _ _ _ us hl => match us, hl with | [_, _], _ => rfl
  have gN := PySem.W.mg_of X G aN
  have bO := FO.binds (ps := ["_law_script", "_law_k"]) fun _ _ _ _ _ _ us hl => match us, hl with | [_, _], _ => rfl
  have gO := PySem.W.mg_of X G aO
  have bT := FT.binds (ps := ["_law_pot_here", "_law_many"]) fun _ _ _ _ _ _ us hl => match us, hl with | [_, _], _ => rfl
  have gT := PySem.W.mg_of X G aT
  have bA := FA.binds (ps := ["_law_pot_here", "_law_places", "_law_found"]) fun _ _ _ _ _ _ us hl => match us, hl with | [_, _, _], _ => rfl
  have gA := PySem.W.mg_of X G aA
  have bB := FB.binds (ps := ["_law_pot_here", "_law_places"]) fun _ _ _ _ _ _ us hl => match us, hl with | [_, _], _ => rfl
  have gB := PySem.W.mg_of X G aB
  have bR := FR.binds (ps := ["_law_places", "_law_pairs_here"]) fun _ _ _ _ _ _ us hl => match us, hl with | [_, _], _ => rfl
  have gR := PySem.W.mg_of X G aR
  have bM := FM.binds (ps := ["places", "ties"]) fun _ _ _ _ _ _ us hl => match us, hl with | [_, _], _ => rfl
  have gM := PySem.W.mg_of X G aM
  have bU := FU.binds (ps := ["places", "pairs", "most"]) fun _ _ _ _ _ _ us hl => match us, hl with | [_, _, _], _ => rfl
  have gU := PySem.W.mg_of X G aU
  have bI := FI.binds (ps := ["places", "thing"]) fun _ _ _ _ _ _ us hl => match us, hl with | [_, _], _ => rfl
  have gI := PySem.W.mg_of X G aI
  have bQ := FQ.binds (ps := ["places", "thing"]) fun _ _ _ _ _ _ us hl => match us, hl with | [_, _], _ => rfl
  have gQ := PySem.W.mg_of X G aQ
  have bW := FW.binds (ps := ["thing"]) fun _ _ _ _ _ _ us hl => match us, hl with | [_], _ => rfl
  have gW := PySem.W.mg_of X G aW
  have bS := FS.binds (ps := ["places"]) fun _ _ _ _ _ _ us hl => match us, hl with | [_], _ => rfl
  have gS := PySem.W.mg_of X G aS
  have tabM : PySem.W.tabIn K "made_web" = some (cM_, TM) := by
    unfold PySem.W.tabIn
    rw [aM]
    dsimp only
    rw [lM]
    dsimp only [PySem.W.fnOf]
    rw [tM]
    dsimp only
    rw [iM]
  have v0 := PySem.W.mg_of X G w0
  have v1 := PySem.W.mg_of X G w1
  have m_range := PySem.W.mg_none_of X G z0
  have m_list := PySem.W.mg_none_of X G z1
  have m_min := PySem.W.mg_none_of X G z2
  have m_max := PySem.W.mg_none_of X G z3
  have m_repr := PySem.W.mg_none_of X G z4
  have m_tuple := PySem.W.mg_none_of X G z5
  have m_len := PySem.W.mg_none_of X G z6
  have m_abs := PySem.W.mg_none_of X G z7
  have m_divmod := PySem.W.mg_none_of X G z8
  have m_int := PySem.W.mg_none_of X G z9
  have m_isinstance := PySem.W.mg_none_of X G z10
  have m_bool := PySem.W.mg_none_of X G z11
  have m_enumerate := PySem.W.mg_none_of X G z12
  refine ⟨PySem.W.fnOf "law" "law" (defArgs sLaw) (defBody sLaw) (defScope sLaw) .none kVZ dcZ pmZ anZ cdZ ctZ, [(cM_, TM)], spLaw K TM, fun p hp => ?_, fun p hp => ?_, fun s v => .of_eq rfl, fun H a ns hl hT hS => ?_, fun b0 _ _ hTB => ?_⟩
  · rw [List.mem_singleton.mp hp]
    exact ⟨_, by decide, tabM⟩
  · rw [List.mem_singleton.mp hp]
    exact nM
  · exact ⟨a, ns, rfl, hS, hl, hT (cM_, TM) (by simp), fun _ => rfl⟩
  · have TBM := hTB (cM_, TM) (by simp)
    exact ok_law FZ rfl TBM FN bN gN FO bO gO FT bT gT FA bA gA FB bB gB FR bR gR FM bM gM FU bU gU FI bI gI FQ bQ gQ FW bW gW FS bS gS v0 v1 m_range m_list m_min m_max m_repr m_tuple m_len m_abs m_divmod m_int m_isinstance m_bool m_enumerate
end TA
open PySem PySem.W PyProof.Rows
set_option maxHeartbeats 0 in
theorem PySem.Challenge.cw_treesapart_k11_webs_made_holds : PySem.Challenge.rw_treesapart_k11_webs_made.Holds := by
  w_on; o_law; k_head; (case hw => w_witness2)
  k_fill
  refine TA.walkGT (l := PySem.Challenge.rw_treesapart_k11_webs_made) (n := 63) (k := 7) (x := "_law_script") ["made_web"] rfl (by decide) rfl ⟨rfl, by decide, by decide⟩ ?R (fun w h Y => PySem.W.kIn_of Y) ?F
  case R =>
    intro nm hnm
    first | (rw [List.mem_singleton.mp hnm]; exact ⟨_, by rfl⟩) | (simp only [List.mem_cons, List.not_mem_nil, or_false] at hnm; rcases hnm with rfl <;> exact ⟨_, by rfl⟩)
  case F =>
    intro w mg fa h KX G hmg
    refine' TA.all_mk KX G hmg ?aN ?lN ?cN ?kN ?aO ?lO ?cO ?kO ?aT ?lT ?cT ?kT ?aA ?lA ?cA ?kA ?aB ?lB ?cB ?kB ?aR ?lR ?cR ?kR ?aM ?lM ?cM ?kM ?tM ?iM ?nM ?aU ?lU ?cU ?kU ?aI ?lI ?cI ?kI ?aQ ?lQ ?cQ ?kQ ?aW ?lW ?cW ?kW ?aS ?lS ?cS ?kS ?aZ ?lZ ?cZ ?kZ ?w0 ?w1 ?z0 ?z1 ?z2 ?z3 ?z4 ?z5 ?z6 ?z7 ?z8 ?z9 ?z10 ?z11 ?z12
    (case aN => k_is); (case lN => k_is); (case cN => k_is); (case kN => k_is); (case aO => k_is); (case lO => k_is); (case cO => k_is); (case kO => k_is); (case aT => k_is); (case lT => k_is); (case cT => k_is); (case kT => k_is); (case aA => k_is); (case lA => k_is); (case cA => k_is); (case kA => k_is); (case aB => k_is); (case lB => k_is); (case cB => k_is); (case kB => k_is); (case aR => k_is); (case lR => k_is); (case cR => k_is); (case kR => k_is); (case aM => k_is); (case lM => k_is); (case cM => k_is); (case kM => k_is); (case tM => k_is); (case iM => first | exact rfl | kernel_rfl); (case nM => first | exact rfl | kernel_rfl); (case aU => k_is); (case lU => k_is); (case cU => k_is); (case kU => k_is); (case aI => k_is); (case lI => k_is); (case cI => k_is); (case kI => k_is); (case aQ => k_is); (case lQ => k_is); (case cQ => k_is); (case kQ => k_is); (case aW => k_is); (case lW => k_is); (case cW => k_is); (case kW => k_is); (case aS => k_is); (case lS => k_is); (case cS => k_is); (case kS => k_is); (case aZ => k_is); (case lZ => k_is); (case cZ => k_is); (case kZ => k_is); (case w0 => k_is); (case w1 => k_is); (case z0 => k_is); (case z1 => k_is); (case z2 => k_is); (case z3 => k_is); (case z4 => k_is); (case z5 => k_is); (case z6 => k_is); (case z7 => k_is); (case z8 => k_is); (case z9 => k_is); (case z10 => k_is); (case z11 => k_is); (case z12 => k_is)
