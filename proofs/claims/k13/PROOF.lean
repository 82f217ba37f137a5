import PyProof.Rows.All
import Wide.All
import OpenK.AllK
import Wide.FinOn
import HandS.List
import HandS.Comp
import HandS.Ends
import HandS.Dict
import HandS.Iter
import HandS.Words
import PyProof.ReprRoads
import KE.SortData
import KE.DataMinMax
import HandS.ForMost
import HandS.More
import HandS.Conv
import PySem.Challenge.RW_treesapart_k13_parts_by
set_option Elab.async false
set_option linter.all false
set_option maxRecDepth 100000
set_option maxHeartbeats 2000000
/-! What HandS lacks for a law that writes things out: no repr is under way (guards). -/
namespace TA
open PySem PySem.Spec PyProof.Rows L2
/-- a def's promise, asked only where no repr is under way -/
structure FnG (P : Program) (w : World) (K : PySem.W.Frag) (mg : Str → Option Value) (b0 : Heap)
    (CX : CXT) (k : Nat) (f : Addr) (fd : FuncData) (ps : List Str) (sp : Sp) : Prop where
  len : ∀ vs H Q E, sp vs H Q E → vs.length = ps.length
  run : ∀ (B : Around) (ou : List Env) (s : Shared) (H : Hp) (ar : Args) (us : List Value) (vs : List V)
    (Q : VK) (E : XK), B.guards = some [] → Room k B → Env0 P w K mg b0 B ou s H →
    BindsTo s fd ar (ps.zip us) → Vals vs us → sp vs H Q E →
    codeAny (model P w) B (.call (.ref f) ar) (CR CX ou P w H s Q E) s
section
variable {P : Program} {w : World} {K : PySem.W.Frag} {mg : Str → Option Value} {b0 : Heap} {CX : CXT}
variable {k : Nat} {f : Addr} {fd : FuncData} {ps : List Str} {sp : Sp}
theorem FnG.of (F : FnOk P w K mg b0 CX k f fd ps sp) : FnG P w K mg b0 CX k f fd ps sp :=
  ⟨F.len, fun B ou s H ar us vs Q E _ => F.run B ou s H ar us vs Q E⟩
theorem FnG.mono {j : Nat} (F : FnG P w K mg b0 CX j f fd ps sp) (h : j ≤ k) : FnG P w K mg b0 CX k f fd ps sp :=
  ⟨F.len, fun B ou s H ar us vs Q E g hr => F.run B ou s H ar us vs Q E g (hr.mono h)⟩
end
section
variable {X : Cx} {CX : CXT} {k : Nat} {f : Addr} {fd : FuncData} {ps : List Str} {sp : Sp} {dvs : List V}
variable {ds : List Value} {E : XK} {x : Str} {p pos : Pos} {e : Expr} {es : List Expr} {t : TA}
theorem run_fnG {pins : List (Addr × Obj)} {σ : L2.St} {H : Hp} {s : Shared} {Q : VK} {us : List Value}
    {vs : List V} (F : FnG X.prog X.w X.K X.mg X.base CX k f fd ps sp) (hg : X.A.guards = some [])
    (hr : Room k X.A) (hb : Binds X.K fd ps ds) (hd : Vals dvs ds) (hx : Passes CX X E)
    (I : Inv X pins σ H s) (r : Vals vs us) (h : sp (vs ++ dvs) H Q E) :
    wpAny (model X.prog X.w) X.A (call (.ref f) us) (EP X pins σ Q) X.xe s := by
  have rr : Vals (vs ++ dvs) (us ++ ds) := r.append hd
  have hl : (us ++ ds).length = ps.length := rr.length ▸ F.len _ _ _ _ h
  have go := F.run X.A X.stack s H ⟨us, []⟩ (us ++ ds) (vs ++ dvs) Q E hg hr I.env0 (hb s us I.kIn hl) rr h
  refine wpAny_call (codeAny_mono go fun z s' hq => ?_)
  match z, hq with
  | .error e, hq => exact hx pins σ H s e s' I hq
  | .ok (.ret u), hq => exact I.after hq
  | .ok .next, hq => exact False.elim hq
  | .ok .brk, hq => exact False.elim hq
  | .ok .cont, hq => exact False.elim hq
theorem pe_callG (F : FnG X.prog X.w X.K X.mg X.base CX k f fd ps sp) (hg : X.A.guards = some [])
    (hr : Room k X.A) (hgl : Gl X x) (hm : X.mg x = some (.ref f)) (hk : PySem.W.keepIn X.K (.ref f) = true)
    (hb : Binds X.K fd ps ds) (hd : Vals dvs ds) (hx : Passes CX X E) (ha : PA X (e :: es) t)
    (hdb : (x == ("__debug__" : Str)) = false := by decide)
    (he : starEach (e :: es) X.env = (false, eval e X.env) :: starEach es X.env := by rfl)
    (hpl : (backTo pos (starEach es X.env)).any (·.1) = false := by rfl) :
    PE X (.Call (.Name x p) (e :: es) [] pos) (tCall sp dvs E t) := by
  refine ⟨fun pins s σ H Q I h => wpAny_Call_Name_kw (ld_glob I hgl hm ?_ hdb)⟩
  have ar := thn (ha.run pos pins s σ H _ I h) fun us s1 (⟨vs, H1, I1, r, q⟩ : AP X pins σ _ us s1) =>
    show s1.heap = s1.heap ∧ (X.K.In s1.heap ∧ wpAny (model X.prog X.w) X.A (call (.ref f) us) (EP X pins σ Q) X.xe s1) from
      ⟨rfl, I1.kIn, run_fnG F hg hr hb hd hx I1 r q⟩
  exact PySem.W.callWith_K (h₀ := X.base) I.ok.mod.kin hk (thn ar fun us s1 z => z.2) he hpl
end
/-! ### a def's body, where no repr is under way -/
section
variable {P : Program} {w : World} {K : PySem.W.Frag} {mg : Str → Option Value} {b0 : Heap} {CX : CXT}
theorem fnG_of {k : Nat} {f : Addr} {nm qu : Str} {pa : Arguments} {bd : List Stmt} {sc : Scope}
    {dV kV dc pm cd ct oc : Value} {an od : Option Addr} {sl : Array (Option Value)} {N ps : List Str} {sp : Sp}
    (lk : K.lookup f = some ⟨oc, od, .func (PySem.W.fnOf nm qu pa bd sc dV kV dc pm an cd ct), sl⟩)
    (hcd : PySem.W.codeIn K cd qu = true) (S : FnScope N ps sc)
    (len : ∀ vs H Q E, sp vs H Q E → vs.length = ps.length)
    (hb : ∀ (B : Around) (ou : List Env) (s : Shared) (H : Hp) (vs : List V) (Q : VK) (E : XK),
      B.guards = some [] → Room k (B.deeper (envOfC qu sc s.heap.objs.size f cd)) → sp vs H Q E →
      ∃ t, PSs (cxOf CX P w K mg b0 N qu sc f cd B ou s H E) bd t ∧
        t { nx := fun _ H' => Q .non H', rt := Q } (start N vs) H) :
    FnG P w K mg b0 CX (k + 1) f (PySem.W.fnOf nm qu pa bd sc dV kV dc pm an cd ct) ps sp := by
  refine ⟨len, fun B ou s H ar us vs Q E hg hr e0 hbn r hsp => ?_⟩
  have kIn : K.In s.heap := e0.mod.kin.keeps fun b o e => (e0.bs b o e).1
  have nol : s.heap.NoLimit := e0.mod.nolimit.keeps fun b o e => (e0.bs b o e).1
  refine codeAny_call_function hr.depth (kIn _ _ lk) rfl S.co S.gen rfl (PySem.W.codeRec_of kIn hcd) (hbn _ _ _ _ ?_)
  refine wpAny_newFunctionEnv_cells S.kind (fun y hy => ?_) fun env he s1 x => ?_
  · obtain ⟨n, v⟩ := y
    rcases S.par n (List.of_mem_zip hy).1 with q | q
    · exact .inl q
    · exact .inr ⟨q, PySem.W.cellsFrom_some _ _ _ (.inl q)⟩
  subst he
  refine ⟨nol.keeps x.toInCall.keep, codeAny_func ?_⟩
  obtain ⟨t, ht, hq⟩ := hb B ou s H vs Q E hg (hr.deeper _) hsp
  have I := inv_start (CX := CX) (E := E) S hr.hd e0 (len _ _ _ _ hsp) r x
  refine wpAny_mono (ht.run [] s1 (start N vs) H _ I hq) (fun fl s' hs => ?_) fun _ _ hs => hs
  match fl, hs with
  | .ret u, ⟨v, σ', H', J, rv, q⟩ => exact ⟨v, H', J.os, J.bare, J.base, J.hok, rv, q⟩
  | .next, ⟨σ', H', J, q⟩ => exact ⟨V.non, H', J.os, J.bare, J.base, J.hok, rfl, q⟩
  | .brk, ⟨_, _, _, q⟩ => exact False.elim q
  | .cont, ⟨_, _, _, q⟩ => exact False.elim q
theorem FunG.ok {x qu : Str} {st : Stmt} {f : Addr} {fd : FuncData} {N ps : List Str} {k : Nat} {sp : Sp}
    (F : Fun K x qu st f fd) (S : FnScope N ps (defScope st)) (len : ∀ vs H Q E, sp vs H Q E → vs.length = ps.length)
    (hb : ∀ (cd : Value) (B : Around) (ou : List Env) (s : Shared) (H : Hp) (vs : List V) (Q : VK) (E : XK),
      (B.deeper (envOfC qu (defScope st) s.heap.objs.size f cd)).guards = some [] →
      Room k (B.deeper (envOfC qu (defScope st) s.heap.objs.size f cd)) → sp vs H Q E →
      ∃ t, PSs (cxOf CX0 P w K mg b0 N qu (defScope st) f cd B ou s H E).nox (defBody st) t ∧
        t { nx := fun _ H' => Q .non H', rt := Q } (start N vs) H) :
    FnG P w K mg b0 CX0 (k + 1) f fd ps sp := by
  obtain ⟨oc, od, kV, dc, pm, an, cd, ct, sl, rfl, lk, hcd⟩ := F.ex
  refine fnG_of lk hcd S len fun B ou s H vs Q E hg hr hsp => ?_
  obtain ⟨t, h, q⟩ := hb cd B ou s H vs Q E hg hr hsp
  exact ⟨t, h.nox, q⟩
end
/-! ### the law's own call -/
theorem lawG {P : Program} {w : World} {K : PySem.W.Frag} {mg mb : Str → Option Value} {CX : CXT} {k : Nat}
    {fa a : Addr} {fd : FuncData} {x : Str} {sp : Sp} {z : Shared} {vs : List Value} {ns : List Int}
    (KX : K.In z.heap) (hns : z.heap.Ns mainGlobals mg) (hb : z.heap.Ns builtinsNs mb)
    (hbb : ∀ x : Str, x ≠ "__name__" → mb x = bootBuiltins x) (hlim : z.heap.NoLimit) (hg : z.gens = #[])
    (ha : z.heap.get? a = some { cls := .type "list", data := .seq vs.toArray }) (hi : IntsAre vs ns)
    (hl : ns.length ≤ sizeLine) (hr : Room k callerA)
    (F : ∀ b0 : Heap, K.In b0 → b0.Ns mainGlobals mg → FnG P w K mg b0 CX k fa fd [x] sp)
    (hbind : ∀ (s : Shared) (u : Value), BindsTo s fd ⟨[u], []⟩ [(x, u)])
    (hsp : ∀ H : Hp, Only H → SqL K H a (ns.map V.int) → sp [.ref a] H (fun v _ => v = .bl true) fun _ _ _ => False)
    (hCX : ∀ H e s', CX [] H z (fun _ _ _ => False) e s' → False) :
    codeAny (model P w) callerA (.call (.ref fa) ⟨[.ref a], []⟩)
      (fun r s' => r = .ok (.ret (.bool true)) ∧ OldK z.heap s'.heap ∧ s'.os = z.os ∧ AllBare s'.gens) z := by
  have rv := vals_ints hi
  have lenV := hi.length
  have core : ∀ H : Hp, Only H → SqL K H a (ns.map V.int) → HOk P w H z.heap → (∀ b, H b ≠ none → b = a) →
      (H a ≠ none → K.lookup a = none) → codeAny (model P w) callerA (.call (.ref fa) ⟨[.ref a], []⟩)
        (fun r s' => r = .ok (.ret (.bool true)) ∧ OldK z.heap s'.heap ∧ s'.os = z.os ∧ AllBare s'.gens) z := by
    intro H hO hS hok hA hK
    have notr : ∀ {b : Addr} {o : Obj} {es : Array DictEntry} {ep : Nat}, z.heap.get? b = some o →
        o.data = .dict es ep → H b = none := fun {b o es ep} e d => by
      cases q : H b with
      | none => rfl
      | some u =>
        obtain rfl : b = a := hA b (fun n => by rw [q] at n; cases n)
        rw [ha] at e
        cases e
        cases (show Data.seq vs.toArray _ = Data.dict es ep from d)
    have nsK : ∀ {b : Addr} {m : Str → Option Value}, z.heap.Ns b m → (hidT z.heap H).Ns b m :=
      fun {b m} ⟨o, es, ep, e, d, r⟩ => ⟨o, es, ep, hidT_get e (notr e d), d, r⟩
    have hKb : K.In (hidT z.heap H) := fun b o e => hidT_get (KX b o e) (by
      cases q : H b with
      | none => rfl
      | some u =>
        obtain rfl : b = a := hA b (fun n => by rw [q] at n; cases n)
        rw [hK (fun n => by rw [q] at n; cases n)] at e
        cases e)
    have hM : Mod K mg (hidT z.heap H) :=
      ⟨hKb, nsK hns, ⟨mb, nsK hb, hbb⟩, let ⟨mc, h1, h2⟩ := hlim; ⟨mc, nsK h1, h2⟩⟩
    have e0 : Env0 P w K mg (hidT z.heap H) callerA [] z H :=
      ⟨rfl, hM, fun b o e => of_hidT e, Nat.le_of_eq (hidT_size _ _), trivial,
        fun b h => absurd (show b ∈ ([] : List Addr) from h) (List.not_mem_nil), hok, .of_eq hg⟩
    refine codeAny_mono ((F _ hKb (nsK hns)).run callerA [] z H ⟨[.ref a], []⟩ [.ref a] [.ref a] _ _ rfl hr e0
      (hbind z (.ref a)) (.cons rfl .nil) (hsp H hO hS)) fun r s' h => ?_
    match r, h with
    | .error e, h => exact (hCX H e s' h).elim
    | .ok .next, h => exact False.elim h
    | .ok .brk, h => exact False.elim h
    | .ok .cont, h => exact False.elim h
    | .ok (.ret u), ⟨v, H', os, bare, un, hok', r', q⟩ =>
      have qv : v = .bl true := q
      subst qv
      obtain rfl : u = Value.bool true := r'
      refine ⟨rfl, OldK.of_keep fun b o e => ?_, os, bare⟩
      cases q : H b with
      | none => exact un.keep b o e q (fun m => absurd (show b ∈ ([] : List Addr) from m) List.not_mem_nil) (by simp)
      | some u =>
        rcases hO b with m | ⟨ob, xs, m⟩
        · rw [q] at m
          cases m
        · have e1 := (hok b _ m).1
          rw [e] at e1
          cases e1
          exact (hok' b _ (un.frzs b _ _ m)).1
  cases hk : K.lookup a with
  | some o =>
    have e := KX a o hk
    rw [ha] at e
    cases e
    exact core (fun _ => none) (fun _ => .inl rfl)
      (.inr ⟨_, vs.toArray, _, hk, rfl, rfl, rfl, by rw [List.size_toArray, lenV]; exact hl, by simpa using rv⟩)
      (fun b u m => by cases (show (none : Option HO) = some u from m)) (fun b m => absurd rfl m) fun m => absurd rfl m
  | none =>
    refine core (fun b => if b = a then some (.frz { cls := .type "list", data := .seq vs.toArray } (.lst (ns.map V.int))) else none)
      (fun b => ?_) (.inl (.inr ⟨{ cls := .type "list", data := .seq vs.toArray }, if_pos rfl⟩)) (fun b u m => ?_) (fun b m => ?_) fun _ => hk
    · by_cases h : b = a
      · exact .inr ⟨_, _, if_pos h⟩
      · exact .inl (if_neg h)
    · by_cases h : b = a
      · cases (if_pos h).symm.trans m
        subst h
        exact ⟨ha, by rw [List.length_map]; exact hl, vs, _, rv, ha⟩
      · cases (if_neg h).symm.trans m
    · by_cases h : b = a
      · exact h
      · exact absurd (if_neg h) m
theorem walkG {l : PySem.W.OpenLaw} {n k : Nat} {q : Program} {loose : List Str}
    {XP : (Str → Option Value) → Heap → Prop} {YP : World → Heap → Prop} {d : DefRec} {K : Params → PySem.W.Frag}
    {sp : World → Sp} {x : Str} (hn : l.most = some n) (hn2 : n ≤ sizeLine) (hdf : d.params.defaults = [])
    (hr : Room k callerA) (hY : ∀ (w : World) (h : Heap), YP w h → (K w.params).In h)
    (F : ∀ (w : World) (mg : Str → Option Value) (fa : Addr) (h : Heap), (K w.params).In h → h.Ns mainGlobals mg →
      mg d.name = some (.ref fa) → ∃ fd : FuncData, (∀ (s : Shared) (u : Value), BindsTo s fd ⟨[u], []⟩ [(x, u)]) ∧
        ∀ b0 : Heap, (K w.params).In b0 → b0.Ns mainGlobals mg → FnG l.prog w (K w.params) mg b0 CX0 k fa fd [x] (sp w))
    (hsp : ∀ (w : World) (H : Hp) (a : Addr) (ns : List Int), ns.length ≤ n → Only H →
      SqL (K w.params) H a (ns.map V.int) → sp w [.ref a] H (fun v _ => v = .bl true) fun _ _ _ => False) :
    PySem.W.WalkO q loose XP YP l.row.toRowW d [] (fun f vs => PySem.call f vs) := by
  refine Att.attach_call hn hdf fun w _ z mg mb fa o pm cd dc a vs ns G Y _ _ _ hmg ho hi hlen hg => ?_
  obtain ⟨fd, hb, hF⟩ := F w mg fa _ (hY w _ Y) G.T.g hmg
  exact lawG (hY w _ Y) G.T.g G.T.b G.T.builtins G.T.nolimit hg ho hi (Nat.le_trans hlen hn2) hr hF hb
    (fun H hO hS => hsp w H a ns hlen hO hS) fun _ _ _ m => m
/-! ### repr of data at any depth -/
/-- a list or a tuple that can be written out -/
structure Shows (d : PyData) : Prop where
  disp : isDisplay d = true
  show_ : d.showable = true
  nodict : d.hasDict = false
  deep : d.depth ≤ 30
  size : d.shown.length ≤ sizeLine
section
variable {X : Cx}
theorem call_reprD (hg : X.A.guards = some []) (hu : X.A.units + 64 < cLine) :
    CallR X (.builtin "repr") (fun xs H Q => ∃ x d, xs = [x] ∧ Dp X.K H x d ∧ Shows d ∧ Q (.str d.shown) H) := by
  intro pins s σ H xs us Q I r h
  obtain ⟨x, d, rfl, hd, S, q⟩ := h
  obtain ⟨u, rfl, ru⟩ := vals1 r
  obtain ⟨as, rd⟩ := Dp.reads I d x u hd ru
  obtain ⟨a, rfl⟩ := isRef_of_reads rd S.disp
  have hdp := S.deep
  refine repr_of_reads' rd S.show_ (PyData.noDict_hsm S.nodict) hg (by omega) (fun _ _ e => e) (fun h' t tk hk => ?_) S.size
  exact ⟨.str _, H, I.kept hk, ⟨_, rfl⟩, q⟩
end
end TA
set_option maxHeartbeats 2000000
namespace TA
open PySem PySem.Spec PyProof.Rows L2
/-! ### sorted of a list of rows of ints -/
theorem each_vals {β : Type} {g : β → V} : ∀ {bs : List β} {us : List Value}, Vals (bs.map g) us → PySem.W.EachIs (fun u b => RelV (g b) u) us bs
  | [], _, r => by
    cases r
    exact .nil
  | b :: bs, _, r => by
    cases (show Vals (g b :: bs.map g) _ from r) with
    | cons r1 r2 => exact .cons r1 (each_vals r2)
theorem vals_each {β : Type} {g : β → V} : ∀ {bs : List β} {us : List Value}, PySem.W.EachIs (fun u b => RelV (g b) u) us bs → Vals (bs.map g) us
  | _, _, .nil => .nil
  | _, _, .cons h t => .cons h (vals_each t)
/-- x before y, as rows -/
abbrev rowLe {β : Type} (k : β → List Int) : β → β → Bool := fun p q => decide (k p ≤ k q)
def rSortR (K : PySem.W.Frag) : List V → Hp → VK → Prop := fun vs H Q => ∃ (a : Addr) (bs : List (V × List Int)),
  vs = [V.ref a] ∧ SqL K H a (bs.map (·.1)) ∧ (∀ b ∈ bs, ∃ c, b.1 = .ref c ∧ SqL K H c (b.2.map V.int)) ∧
  ∀ p, H p = none → Q (.ref p) (upd H p (.lst ((bs.mergeSort (rowLe (·.2))).map (·.1))))
theorem dpAll_ints (K : PySem.W.Frag) (H : Hp) : ∀ ns : List Int, DpAll K H (ns.map V.int) (ns.map PyData.int)
  | [] => .nil
  | n :: ns => .cons (.int n) (dpAll_ints K H ns)
theorem cr_sortR {X : Cx} (hu : X.A.units + 64 < cLine) : CallR X (.builtin "sorted") (rSortR X.K) := by
  intro pins s σ H vs us Q I r h
  obtain ⟨a, bs, rfl, hs, hx, q⟩ := h
  obtain ⟨its, rv, hl, hz⟩ := I.list hs
  obtain ⟨u, rfl, ru⟩ := vals1 r
  obtain rfl : u = Value.ref a := ru
  have e := each_vals (g := fun b : V × List Int => b.1) rv
  have er : PySem.W.EachIs (fun v (b : V × List Int) => ∃ as, Reads s.heap v (.list (b.2.map .int)) as) its bs :=
    (PySem.W.each_mem e).mono fun v b hb => by
      obtain ⟨rb, mb⟩ := hb
      obtain ⟨c, e1, sq⟩ := hx b mb
      exact Dp.reads I _ b.1 v (by rw [e1]; exact .lst sq (dpAll_ints _ _ _)) rb
  have hbl : bs.length = its.length := by
    have z := rv.length
    rw [List.length_map] at z
    exact z
  refine PySem.W.sorted_data (enc := fun b : V × List Int => .list (b.2.map .int)) (R := fun u (b : V × List Int) => RelV b.1 u)
    hl.isList e er (PySem.W.AllAlike.of fun b b' => ?_) (PySem.W.Sortable.others fun b => ⟨(by intro z; cases z), fun _ => (by intro z; cases z)⟩)
    (by rw [hbl, ← rv.length]; exact hz) (fun b _ => ?_) fun out hlen eo => ?_
  · show PySem.W.alike _ _ = true
    simp only [PySem.W.alike]
    exact PySem.W.alike_ints _ _
  · have hd : (PyData.list (b.2.map .int)).depth = 1 + PyData.depthAll (b.2.map .int) := by simp only [PyData.depth]; omega
    rw [hd, PySem.W.depth_ints]
    omega
  · rw [PySem.W.dataLe_rows (fun b : V × List Int => b.2)] at eo
    have rr := vals_each (g := fun b : V × List Int => b.1) eo
    have hd : s.heap.objs.size ≤ s.heap.objs.size + 1 := Nat.le_succ _
    obtain ⟨n, hn⟩ := sortedAll_at s.heap its out.toArray
    refine ⟨.ref (s.heap.objs.size + 1), upd H (s.heap.objs.size + 1) (.lst ((bs.mergeSort (rowLe (·.2))).map (·.1))), I.laid (t' := s.toks) (fun b o e => sortedAll_old e) hd ⟨?_, out, n, rr, hn⟩, rfl, q _ (I.hok.fresh hd)⟩
    rw [List.length_map, List.length_mergeSort, hbl, ← rv.length]
    exact hz
/-! ### min and max of a tuple of ints -/
theorem alikeAll_int (ns : List Int) : PySem.W.AlikeAll (ns.map PyData.int) := by
  refine ⟨fun x hx y hy => ?_, fun x hx => ?_⟩
  · obtain ⟨a, _, rfl⟩ := List.mem_map.mp hx
    obtain ⟨b, _, rfl⟩ := List.mem_map.mp hy
    simp [PySem.W.alike]
  · obtain ⟨a, _, rfl⟩ := List.mem_map.mp hx
    intro z
    cases z
theorem reads_int {h : Heap} {v : Value} {n : Int} {as : List Addr} (r : Reads h v (.int n) as) : RelV (.int n) v := by
  cases r with
  | int _ t => exact ⟨t, rfl⟩
def rMinT (K : PySem.W.Frag) : List V → Hp → VK → Prop := fun vs H Q => ∃ (a : Addr) (n : Int) (ns : List Int), vs = [.ref a] ∧ SqT K H a ((n :: ns).map V.int) ∧ Q (.int (ns.foldl min n)) H
def rMaxT (K : PySem.W.Frag) : List V → Hp → VK → Prop := fun vs H Q => ∃ (a : Addr) (n : Int) (ns : List Int), vs = [.ref a] ∧ SqT K H a ((n :: ns).map V.int) ∧ Q (.int (ns.foldl max n)) H
section
variable {X : Cx}
theorem call_minT (hc : X.calm = true) (hu : X.A.units + 64 < cLine) : CallR X (.builtin "min") (rMinT X.K) := by
  intro pins s σ H vs us Q I r h
  obtain ⟨a, n, ns, rfl, hs, q⟩ := h
  obtain ⟨its, rv, ht, _⟩ := I.tuple hs
  rw [Vals.ref1 r]
  obtain ⟨as, rd⟩ := Dp.readsAll I _ _ its (dpAll_ints X.K H (n :: ns)) rv
  refine PySem.W.min_tuple_data (I.ok.hd hc) ht rd (alikeAll_int (n :: ns)) ?_ fun i v h' tk bs _ r' hk => ?_
  · rw [show (PyData.int n :: ns.map PyData.int) = (n :: ns).map PyData.int from rfl, PySem.W.depth_ints]
    omega
  · rw [PySem.W.minD_ints] at r'
    exact ⟨.int _, H, I.kept hk, reads_int r', q⟩
theorem call_maxT (hc : X.calm = true) (hu : X.A.units + 64 < cLine) : CallR X (.builtin "max") (rMaxT X.K) := by
  intro pins s σ H vs us Q I r h
  obtain ⟨a, n, ns, rfl, hs, q⟩ := h
  obtain ⟨its, rv, ht, _⟩ := I.tuple hs
  rw [Vals.ref1 r]
  obtain ⟨as, rd⟩ := Dp.readsAll I _ _ its (dpAll_ints X.K H (n :: ns)) rv
  refine PySem.W.max_tuple_data (I.ok.hd hc) ht rd (alikeAll_int (n :: ns)) ?_ fun i v h' tk bs _ r' hk => ?_
  · rw [show (PyData.int n :: ns.map PyData.int) = (n :: ns).map PyData.int from rfl, PySem.W.depth_ints]
    omega
  · rw [PySem.W.maxD_ints] at r'
    exact ⟨.int _, H, I.kept hk, reads_int r', q⟩
end
end TA
set_option maxHeartbeats 2000000
namespace TA
open PySem PySem.Spec PyProof.Rows L2
/-! ### data that can be written out, and compared -/
structure Fit (d : PyData) (w dp : Nat) : Prop where
  show_ : d.showable = true
  nodict : d.hasDict = false
  short : d.leavesShort 100 = true
  lay : d.canLay0 = true
  wt : d.weight ≤ w
  dpt : d.depth ≤ dp
structure FitAll (ds : List PyData) (w dp : Nat) : Prop where
  show_ : PyData.showableAll ds = true
  nodict : PyData.hasDictAll ds = false
  short : PyData.leavesShortAll 100 ds = true
  lay : PyData.canLayAll0 ds = true
  wt : PyData.weightAll ds ≤ w
  dpt : PyData.depthAll ds ≤ dp
theorem Fit.up {d : PyData} {w w' dp dp' : Nat} (h : Fit d w dp) (hw : w ≤ w') (hd : dp ≤ dp') : Fit d w' dp' := ⟨h.show_, h.nodict, h.short, h.lay, Nat.le_trans h.wt hw, Nat.le_trans h.dpt hd⟩
theorem FitAll.up {d : List PyData} {w w' dp dp' : Nat} (h : FitAll d w dp) (hw : w ≤ w') (hd : dp ≤ dp') : FitAll d w' dp' := ⟨h.show_, h.nodict, h.short, h.lay, Nat.le_trans h.wt hw, Nat.le_trans h.dpt hd⟩
theorem log2_lt {n k : Nat} (hk : 0 < k) (h : n < 2 ^ k) : n.log2 < k := by
  by_cases z : n = 0
  · rw [z]
    simpa using hk
  · exact (Nat.log2_lt z).mpr h
theorem fit_int {i : Int} {k : Nat} (k0 : 0 < k) (hk : k ≤ 300) (h : i.natAbs < 2 ^ k) : Fit (.int i) k 0 := by
  have l := log2_lt k0 h
  refine ⟨?_, rfl, ?_, rfl, ?_, Nat.le_refl _⟩
  · simp only [PyData.showable, decide_eq_true_eq]
    omega
  · simp only [PyData.leavesShort, decide_eq_true_eq]
    have h2 : i.natAbs < 10 ^ 99 := Nat.lt_of_lt_of_le h (Nat.le_trans (Nat.pow_le_pow_right (by decide) hk) (by decide +kernel))
    have e := int_text_length_le10 (k := 99) (by decide) h2
    show (Str.ofString (toString i)).length ≤ 100
    rw [PySem.ofString_length]
    exact e
  · simp only [PyData.weight]
    split <;> omega
theorem fit_none : Fit .none 0 0 := ⟨rfl, rfl, rfl, rfl, Nat.le_refl _, Nat.le_refl _⟩
theorem fit_bool (b : Bool) : Fit (.bool b) 0 0 := ⟨rfl, rfl, rfl, rfl, Nat.le_refl _, Nat.le_refl _⟩
theorem fit_nil : FitAll [] 0 0 := ⟨rfl, rfl, rfl, rfl, Nat.le_refl _, Nat.le_refl _⟩
theorem fit_cons {d : PyData} {ds : List PyData} {w w' dp : Nat} (h : Fit d w dp) (t : FitAll ds w' dp) : FitAll (d :: ds) (w + 1 + w') dp := by
  refine ⟨?_, ?_, ?_, ?_, ?_, ?_⟩
  · simp only [PyData.showableAll, h.show_, t.show_, Bool.and_self]
  · simp only [PyData.hasDictAll, h.nodict, t.nodict, Bool.or_self]
  · simp only [PyData.leavesShortAll, h.short, t.short, Bool.and_self]
  · simp only [PyData.canLayAll0, h.lay, t.lay, Bool.and_self]
  · have h1 := h.wt
    have h2 := t.wt
    simp only [PyData.weightAll]
    omega
  · have h1 := h.dpt
    have h2 := t.dpt
    simp only [PyData.depthAll]
    omega
theorem fit_list {ds : List PyData} {w dp : Nat} (h : FitAll ds w dp) : Fit (.list ds) w (dp + 1) := by
  have h1 := h.dpt
  refine ⟨by simpa only [PyData.showable] using h.show_, by simpa only [PyData.hasDict] using h.nodict, by simpa only [PyData.leavesShort] using h.short, by simpa only [PyData.canLay0] using h.lay, by simpa only [PyData.weight] using h.wt, ?_⟩
  simp only [PyData.depth]
  omega
theorem fit_tuple {ds : List PyData} {w dp : Nat} (h : FitAll ds w dp) : Fit (.tuple ds) w (dp + 1) := by
  have h1 := h.dpt
  refine ⟨by simpa only [PyData.showable] using h.show_, by simpa only [PyData.hasDict] using h.nodict, by simpa only [PyData.leavesShort] using h.short, by simpa only [PyData.canLay0] using h.lay, by simpa only [PyData.weight] using h.wt, ?_⟩
  simp only [PyData.depth]
  omega
theorem fit_map {α : Type} {g : α → PyData} {w dp : Nat} : ∀ {l : List α}, (∀ x ∈ l, Fit (g x) w dp) → FitAll (l.map g) ((w + 1) * l.length) dp
  | [], _ => (fit_nil).up (Nat.zero_le _) (Nat.zero_le _)
  | x :: l, h => by
    have t := fit_map (l := l) fun y hy => h y (List.mem_cons_of_mem _ hy)
    refine (fit_cons (h x List.mem_cons_self) t).up ?_ (Nat.le_refl _)
    rw [List.length_cons, Nat.mul_succ]
    omega
theorem Fit.shows {d : PyData} {w dp : Nat} (h : Fit d w dp) (hd : isDisplay d = true) (hw : w ≤ 160000) (hp : dp ≤ 30) : Shows d := by
  refine ⟨hd, h.show_, h.nodict, Nat.le_trans h.dpt hp, ?_⟩
  have h1 := PyData.shown_le 100 (by decide) d h.short
  have h2 := h.wt
  rw [sizeLine_eq]
  omega
theorem Fit.shaped {d : PyData} {w dp : Nat} (h : Fit d w dp) (hp : dp ≤ 64) : SeqAt.shaped d = true := by
  unfold SeqAt.shaped
  rw [h.lay, decide_eq_true (Nat.le_trans h.dpt hp)]
  rfl
/-! ### rows of ints as data -/
abbrev rowD (ns : List Int) : PyData := .list (ns.map .int)
theorem eqv_int (a b : Int) : PyData.eqv (.int a) (.int b) = decide (a = b) := by
  simp only [PyData.eqv]
  by_cases h : a = b
  · rw [h]; simp
  · rw [decide_eq_false h]; simpa using h
theorem eqvAll_int : ∀ xs ys : List Int, PyData.eqvAll (xs.map .int) (ys.map .int) = decide (xs = ys)
  | [], [] => by simp [PyData.eqvAll]
  | [], _ :: _ => by simp [PyData.eqvAll]
  | _ :: _, [] => by simp [PyData.eqvAll]
  | x :: xs, y :: ys => by
    show PyData.eqvAll (.int x :: xs.map .int) (.int y :: ys.map .int) = _
    rw [PyData.eqvAll, eqvAll_int xs ys, eqv_int]
    by_cases h : x = y
    · subst h
      simp
    · rw [decide_eq_false h, decide_eq_false (fun e => h (List.cons.inj e).1)]
      rfl
theorem eqv_row (xs ys : List Int) : PyData.eqv (rowD xs) (rowD ys) = decide (xs = ys) := by
  simp only [PyData.eqv]
  exact eqvAll_int xs ys
end TA
namespace TA
/-! ### parts: the mathematics -/
theorem perm_sorted_eq {α : Type} {le : α → α → Prop} (an : ∀ a b, le a b → le b a → a = b) :
    ∀ {l m : List α}, l.Perm m → l.Pairwise le → m.Pairwise le → l = m
  | [], m, p, _, _ => (List.Perm.eq_nil p.symm).symm
  | x :: l, [], p, _, _ => absurd p.length_eq (by simp)
  | x :: l, y :: m, p, hl, hm => by
    have hx : x ∈ y :: m := p.mem_iff.mp List.mem_cons_self
    have hy : y ∈ x :: l := p.mem_iff.mpr List.mem_cons_self
    have e : x = y := by
      rcases List.mem_cons.mp hx with e | hx
      · exact e
      · rcases List.mem_cons.mp hy with e | hy
        · exact e.symm
        · exact an _ _ ((List.pairwise_cons.mp hl).1 y hy) ((List.pairwise_cons.mp hm).1 x hx)
    subst e
    rw [perm_sorted_eq an p.cons_inv (List.pairwise_cons.mp hl).2 (List.pairwise_cons.mp hm).2]
/-- the marks behind a tie: x and y the marks of its ends -/
def lowOf (x y : Int) : Int := if y < x then y else x
def highOf (x y : Int) : Int := if y > x then y else x
def remark (x y : Int) (L : List Int) : List Int := L.map fun m => if m = highOf x y then lowOf x y else m
def at0 (L : List Int) (i : Int) : Int := L.getD i.toNat 0
def stepL (L : List Int) (t : Int × Int) : List Int := remark (at0 L t.1) (at0 L t.2) L
def upto (n : Nat) : List Int := (List.range n).map Int.ofNat
def leastOf (n : Nat) (ts : List (Int × Int)) : List Int := ts.foldl stepL (upto n)
/-- the parts that the marks make -/
def rowAt (n : Nat) (L : List Int) (m : Int) : List Int := (upto n).filter fun p => at0 L p == m
def rowsOf (n : Nat) (L : List Int) : List (List Int) := ((upto n).filter fun m => at0 L m == m).map (rowAt n L)
theorem mem_upto {n : Nat} {x : Int} : x ∈ upto n ↔ 0 ≤ x ∧ x < n := by
  unfold upto
  rw [List.mem_map]
  constructor
  · rintro ⟨k, hk, rfl⟩
    have := List.mem_range.mp hk
    exact ⟨Int.natCast_nonneg k, by show (k : Int) < n; omega⟩
  · intro ⟨h0, h1⟩
    exact ⟨x.toNat, List.mem_range.mpr (by omega), by show ((x.toNat : Nat) : Int) = x; omega⟩
theorem upto_length (n : Nat) : (upto n).length = n := by simp [upto]
theorem upto_lt (n : Nat) : (upto n).Pairwise (· < ·) := by
  unfold upto
  rw [List.pairwise_map]
  exact List.pairwise_lt_range.imp fun h => by show (Int.ofNat _) < Int.ofNat _; exact Int.ofNat_lt.mpr h
theorem at0_upto {n : Nat} {x : Int} (h0 : 0 ≤ x) (h1 : x < n) : at0 (upto n) x = x := by
  unfold at0 upto
  rw [List.getD_eq_getElem?_getD, List.getElem?_map, List.getElem?_range (by omega)]
  show ((x.toNat : Nat) : Int) = x
  omega
theorem remark_length (x y : Int) (L : List Int) : (remark x y L).length = L.length := by simp [remark]
theorem at0_remark {x y : Int} {L : List Int} {i : Int} (h0 : 0 ≤ i) (h1 : i < L.length) : at0 (remark x y L) i = if at0 L i = highOf x y then lowOf x y else at0 L i := by
  have h : i.toNat < L.length := by omega
  unfold at0 remark
  rw [List.getD_eq_getElem?_getD, List.getD_eq_getElem?_getD, List.getElem?_map, List.getElem?_eq_getElem h]
  rfl
/-- a list of parts says what the marks say -/
structure Rel (n : Nat) (L : List Int) (Ps : List (List Int)) : Prop where
  len : L.length = n
  ne : ∀ B ∈ Ps, B ≠ []
  inc : ∀ B ∈ Ps, B.Pairwise (· < ·)
  mark : ∀ B ∈ Ps, ∀ x ∈ B, 0 ≤ x ∧ x < n ∧ at0 L x = B.headD 0
  cov : ∀ x : Int, 0 ≤ x → x < n → ∃ B ∈ Ps, x ∈ B
  hd : (Ps.map (·.headD 0)).Nodup
theorem inj_of_nodup {α : Type} {f : α → Int} : ∀ {l : List α}, (l.map f).Nodup → ∀ {a b : α}, a ∈ l → b ∈ l → f a = f b → a = b
  | [], _, a, b, ha, _, _ => by cases ha
  | x :: l, h, a, b, ha, hb, e => by
    rw [List.map_cons, List.nodup_cons] at h
    rcases List.mem_cons.mp ha with ea | ha
    · rcases List.mem_cons.mp hb with eb | hb
      · rw [ea, eb]
      · exact absurd (List.mem_map.mpr ⟨b, hb, by rw [← e, ea]⟩) h.1
    · rcases List.mem_cons.mp hb with eb | hb
      · exact absurd (List.mem_map.mpr ⟨a, ha, by rw [e, eb]⟩) h.1
      · exact inj_of_nodup h.2 ha hb e
section
variable {n : Nat} {L : List Int} {Ps : List (List Int)}
theorem Rel.one (R : Rel n L Ps) {B C : List Int} {x : Int} (hB : B ∈ Ps) (hC : C ∈ Ps) (xB : x ∈ B) (xC : x ∈ C) : B = C :=
  inj_of_nodup R.hd hB hC ((R.mark B hB x xB).2.2.symm.trans (R.mark C hC x xC).2.2)
theorem head_mem : ∀ {B : List Int}, B ≠ [] → B.headD 0 ∈ B
  | [], h => absurd rfl h
  | x :: r, _ => List.mem_cons_self
theorem head_le {B : List Int} (h : B.Pairwise (· < ·)) {x : Int} (hx : x ∈ B) : B.headD 0 ≤ x := by
  cases B with
  | nil => cases hx
  | cons y r =>
    rcases List.mem_cons.mp hx with e | hx
    · rw [e]; exact Int.le_refl _
    · exact Int.le_of_lt ((List.pairwise_cons.mp h).1 x hx)
theorem Rel.iff (R : Rel n L Ps) {B : List Int} (hB : B ∈ Ps) {x : Int} (h0 : 0 ≤ x) (h1 : x < n) : x ∈ B ↔ at0 L x = B.headD 0 := by
  refine ⟨fun h => (R.mark B hB x h).2.2, fun e => ?_⟩
  obtain ⟨C, hC, xC⟩ := R.cov x h0 h1
  have : C = B := inj_of_nodup R.hd hC hB (by rw [← (R.mark C hC x xC).2.2, e])
  rw [← this]
  exact xC
/-- each part is the row of its first place -/
theorem Rel.row (R : Rel n L Ps) {B : List Int} (hB : B ∈ Ps) : rowAt n L (B.headD 0) = B := by
  refine perm_sorted_eq (le := (· ≤ ·)) (fun a b h1 h2 => Int.le_antisymm h1 h2) ?_ (((upto_lt n).filter _).imp fun h => Int.le_of_lt h) ((R.inc B hB).imp fun h => Int.le_of_lt h)
  refine (List.perm_ext_iff_of_nodup ((((upto_lt n).filter _).imp fun {a b} h => by omega)) ((R.inc B hB).imp fun {a b} h => by omega)).mpr fun x => ?_
  rw [List.mem_filter, mem_upto]
  constructor
  · rintro ⟨⟨h0, h1⟩, e⟩
    exact (R.iff hB h0 h1).mpr (by simpa using e)
  · intro h
    obtain ⟨h0, h1, e⟩ := R.mark B hB x h
    exact ⟨⟨h0, h1⟩, by simpa using e⟩
theorem Rel.start (n : Nat) : Rel n (upto n) ((upto n).map fun x => [x]) := by
  refine ⟨upto_length n, fun B hB => ?_, fun B hB => ?_, fun B hB x hx => ?_, fun x h0 h1 => ?_, ?_⟩
  · obtain ⟨y, _, rfl⟩ := List.mem_map.mp hB
    exact List.cons_ne_nil _ _
  · obtain ⟨y, _, rfl⟩ := List.mem_map.mp hB
    exact List.pairwise_singleton _ _
  · obtain ⟨y, hy, rfl⟩ := List.mem_map.mp hB
    obtain rfl := List.mem_singleton.mp hx
    obtain ⟨h0, h1⟩ := mem_upto.mp hy
    exact ⟨h0, h1, at0_upto h0 h1⟩
  · exact ⟨[x], List.mem_map.mpr ⟨x, mem_upto.mpr ⟨h0, h1⟩, rfl⟩, List.mem_singleton.mpr rfl⟩
  · rw [List.map_map]
    have e : ((fun B : List Int => B.headD 0) ∘ fun x : Int => [x]) = id := funext fun x => rfl
    rw [e, List.map_id]
    exact (upto_lt n).imp fun {a b} h => by omega
/-- the law's own parts behind a tie -/
def joined (Ps : List (List Int)) (A B C : List Int) : List (List Int) := (Ps.filter fun P => (P != A) && (P != B)) ++ [C]
theorem lowHigh (x y : Int) (h : x ≠ y) : (lowOf x y = x ∧ highOf x y = y) ∨ (lowOf x y = y ∧ highOf x y = x) := by
  unfold lowOf highOf
  by_cases h1 : y < x
  · rw [if_pos h1, if_neg (by omega)]
    exact .inr ⟨rfl, rfl⟩
  · rw [if_neg h1, if_pos (by omega)]
    exact .inl ⟨rfl, rfl⟩
theorem lowHigh_le (x y : Int) : lowOf x y ≤ x ∧ lowOf x y ≤ y := by
  unfold lowOf
  by_cases h1 : y < x
  · rw [if_pos h1]; omega
  · rw [if_neg h1]; omega
theorem remark_same (x : Int) (L : List Int) : remark x x L = L := by
  unfold remark lowOf highOf
  rw [if_neg (by omega)]
  conv => rhs; rw [← List.map_id L]
  refine List.map_congr_left fun m _ => ?_
  by_cases h : m = x
  · rw [if_pos h, h]; rfl
  · rw [if_neg h]; rfl
theorem Rel.step (R : Rel n L Ps) {A B C : List Int} (hA : A ∈ Ps) (hB : B ∈ Ps) (ne : A ≠ B) (pC : C.Perm (A ++ B)) (sC : C.Pairwise (· ≤ ·)) :
    Rel n (remark (A.headD 0) (B.headD 0) L) (joined Ps A B C) := by
  have nh : A.headD 0 ≠ B.headD 0 := fun e => ne (inj_of_nodup R.hd hA hB e)
  have mC : ∀ x, x ∈ C ↔ x ∈ A ∨ x ∈ B := fun x => by rw [pC.mem_iff, List.mem_append]
  have neC : C ≠ [] := fun e => by
    have := (mC _).mpr (.inl (head_mem (R.ne A hA)))
    rw [e] at this
    cases this
  have ndAB : (A ++ B).Nodup := by
    rw [List.nodup_append]
    refine ⟨(R.inc A hA).imp fun {a b} h => by omega, (R.inc B hB).imp fun {a b} h => by omega, fun a ha b hb e => ?_⟩
    subst e
    exact ne (R.one hA hB ha hb)
  have incC : C.Pairwise (· < ·) := by
    have nd : C.Nodup := pC.nodup_iff.mpr ndAB
    exact (List.Pairwise.and sC nd).imp fun {a b} h => by
      have h2 : a ≠ b := h.2
      have h1 : a ≤ b := h.1
      omega
  have hdC : C.headD 0 = lowOf (A.headD 0) (B.headD 0) := by
    have h1 : C.headD 0 ≤ lowOf (A.headD 0) (B.headD 0) := by
      rcases lowHigh _ _ nh with ⟨e, _⟩ | ⟨e, _⟩
      · rw [e]; exact head_le incC ((mC _).mpr (.inl (head_mem (R.ne A hA))))
      · rw [e]; exact head_le incC ((mC _).mpr (.inr (head_mem (R.ne B hB))))
    have h2 : lowOf (A.headD 0) (B.headD 0) ≤ C.headD 0 := by
      obtain ⟨l1, l2⟩ := lowHigh_le (A.headD 0) (B.headD 0)
      rcases (mC _).mp (head_mem neC) with h | h
      · have := head_le (R.inc A hA) h; omega
      · have := head_le (R.inc B hB) h; omega
    omega
  have old : ∀ P, P ∈ (Ps.filter fun P => (P != A) && (P != B)) → P ∈ Ps ∧ P.headD 0 ≠ A.headD 0 ∧ P.headD 0 ≠ B.headD 0 := fun P hP => by
    obtain ⟨h1, h2⟩ := List.mem_filter.mp hP
    simp only [Bool.and_eq_true, bne_iff_ne, ne_eq] at h2
    exact ⟨h1, fun e => h2.1 (inj_of_nodup R.hd h1 hA e), fun e => h2.2 (inj_of_nodup R.hd h1 hB e)⟩
  have hhi : ∀ z, z ≠ A.headD 0 → z ≠ B.headD 0 → z ≠ highOf (A.headD 0) (B.headD 0) ∧ z ≠ lowOf (A.headD 0) (B.headD 0) := fun z h1 h2 => by
    rcases lowHigh _ _ nh with ⟨e1, e2⟩ | ⟨e1, e2⟩ <;> rw [e1, e2]
    · exact ⟨h2, h1⟩
    · exact ⟨h1, h2⟩
  refine ⟨by rw [remark_length]; exact R.len, fun P hP => ?_, fun P hP => ?_, fun P hP x hx => ?_, fun x h0 h1 => ?_, ?_⟩
  · rcases List.mem_append.mp hP with h | h
    · exact R.ne P (old P h).1
    · rw [List.mem_singleton.mp h]; exact neC
  · rcases List.mem_append.mp hP with h | h
    · exact R.inc P (old P h).1
    · rw [List.mem_singleton.mp h]; exact incC
  · rcases List.mem_append.mp hP with h | h
    · obtain ⟨h1, h2, h3⟩ := old P h
      obtain ⟨x0, x1, xm⟩ := R.mark P h1 x hx
      refine ⟨x0, x1, ?_⟩
      rw [at0_remark x0 (by rw [R.len]; exact x1), xm, if_neg (hhi _ h2 h3).1]
    · obtain rfl := List.mem_singleton.mp h
      have key : 0 ≤ x ∧ x < n ∧ (at0 L x = A.headD 0 ∨ at0 L x = B.headD 0) := by
        rcases (mC x).mp hx with q | q
        · obtain ⟨a, b, c⟩ := R.mark A hA x q
          exact ⟨a, b, .inl c⟩
        · obtain ⟨a, b, c⟩ := R.mark B hB x q
          exact ⟨a, b, .inr c⟩
      obtain ⟨x0, x1, xm⟩ := key
      refine ⟨x0, x1, ?_⟩
      rw [at0_remark x0 (by rw [R.len]; exact x1), hdC]
      rcases lowHigh _ _ nh with ⟨e1, e2⟩ | ⟨e1, e2⟩ <;> rw [e1, e2] <;> rcases xm with xm | xm <;> rw [xm]
      · rw [if_neg nh]
      · rw [if_pos rfl]
      · rw [if_pos rfl]
      · rw [if_neg (fun e => nh e.symm)]
  · obtain ⟨P, hP, xP⟩ := R.cov x h0 h1
    by_cases hPA : P = A
    · exact ⟨C, List.mem_append_right _ (List.mem_singleton.mpr rfl), (mC x).mpr (.inl (hPA ▸ xP))⟩
    · by_cases hPB : P = B
      · exact ⟨C, List.mem_append_right _ (List.mem_singleton.mpr rfl), (mC x).mpr (.inr (hPB ▸ xP))⟩
      · exact ⟨P, List.mem_append_left _ (List.mem_filter.mpr ⟨hP, by simp [hPA, hPB]⟩), xP⟩
  · unfold joined
    rw [List.map_append, List.nodup_append]
    refine ⟨R.hd.sublist (List.Sublist.map _ List.filter_sublist), by simp, fun a ha b hb e => ?_⟩
    obtain ⟨P, hP, rfl⟩ := List.mem_map.mp ha
    rw [List.map_cons, List.map_nil, List.mem_singleton, hdC] at hb
    obtain ⟨_, h2, h3⟩ := old P hP
    exact (hhi _ h2 h3).2 (e.trans hb)
/-- the parts in order are the rows of the marks -/
theorem Rel.rows (R : Rel n L Ps) {Qs : List (List Int)} (p : Qs.Perm Ps) (s : Qs.Pairwise (fun a b => a ≤ b)) : Qs = rowsOf n L := by
  have hm : ∀ B, B ∈ rowsOf n L ↔ B ∈ Ps := fun B => by
    unfold rowsOf
    rw [List.mem_map]
    constructor
    · rintro ⟨m, hm, rfl⟩
      obtain ⟨h1, h2⟩ := List.mem_filter.mp hm
      obtain ⟨h0, h1⟩ := mem_upto.mp h1
      have h2 : at0 L m = m := by simpa using h2
      obtain ⟨C, hC, mC⟩ := R.cov m h0 h1
      have := (R.mark C hC m mC).2.2
      rw [h2] at this
      rw [this, R.row hC]
      exact hC
    · intro hB
      have hh := head_mem (R.ne B hB)
      obtain ⟨h0, h1, e⟩ := R.mark B hB _ hh
      exact ⟨B.headD 0, List.mem_filter.mpr ⟨mem_upto.mpr ⟨h0, h1⟩, by simpa using e⟩, R.row hB⟩
  have heads : (rowsOf n L).Pairwise fun B C => B.headD 0 < C.headD 0 := by
    unfold rowsOf
    rw [List.pairwise_map]
    refine List.Pairwise.imp_of_mem (fun {a b} ha hb h => ?_) ((upto_lt n).filter _)
    have hd1 : ∀ m, m ∈ (upto n).filter (fun m => at0 L m == m) → (rowAt n L m).headD 0 = m := fun m hm' => by
      obtain ⟨h1, h2⟩ := List.mem_filter.mp hm'
      obtain ⟨h0, h1⟩ := mem_upto.mp h1
      have h2 : at0 L m = m := by simpa using h2
      obtain ⟨C, hC, mC⟩ := R.cov m h0 h1
      have := (R.mark C hC m mC).2.2
      rw [h2] at this
      conv => lhs; rw [this, R.row hC]
      exact this.symm
    rw [hd1 a ha, hd1 b hb]
    exact h
  have srt : (rowsOf n L).Pairwise fun B C => B ≤ C := by
    refine List.Pairwise.imp_of_mem (fun {a b} ha hb h => ?_) heads
    have na := R.ne a ((hm a).mp ha)
    have nb := R.ne b ((hm b).mp hb)
    cases a with
    | nil => exact absurd rfl na
    | cons x r =>
      cases b with
      | nil => exact absurd rfl nb
      | cons y t =>
        have h : x < y := h
        exact List.le_of_lt (List.Lex.rel h)
  have nd1 : (rowsOf n L).Nodup := heads.imp fun {a b} h e => by rw [e] at h; omega
  have nd2 : Ps.Nodup := by
    have h := R.hd
    unfold List.Nodup at h
    rw [List.pairwise_map] at h
    exact h.imp fun {a b} h e => h (by rw [e])
  exact perm_sorted_eq (le := fun a b => a ≤ b) (fun a b h1 h2 => List.le_antisymm h1 h2) (p.trans ((List.perm_ext_iff_of_nodup nd2 nd1).mpr fun B => (hm B).symm)) s srt
theorem Rel.ex_from {n : Nat} : ∀ (ts : List (Int × Int)) {L : List Int} {Ps : List (List Int)}, Rel n L Ps → (∀ t ∈ ts, 0 ≤ t.1 ∧ t.1 < n ∧ 0 ≤ t.2 ∧ t.2 < n) → ∃ Qs, Rel n (ts.foldl stepL L) Qs
  | [], L, Ps, R, _ => ⟨Ps, R⟩
  | t :: ts, L, Ps, R, h => by
    obtain ⟨a0, a1, b0, b1⟩ := h t List.mem_cons_self
    obtain ⟨A, hA, xA⟩ := R.cov t.1 a0 a1
    obtain ⟨B, hB, xB⟩ := R.cov t.2 b0 b1
    have eA := (R.mark A hA _ xA).2.2
    have eB := (R.mark B hB _ xB).2.2
    have e : stepL L t = remark (A.headD 0) (B.headD 0) L := by unfold stepL; rw [eA, eB]
    show ∃ Qs, Rel n (ts.foldl stepL (stepL L t)) Qs
    rw [e]
    by_cases ne : A = B
    · rw [ne, remark_same]
      exact Rel.ex_from ts R fun u hu => h u (List.mem_cons_of_mem _ hu)
    · refine Rel.ex_from ts (R.step hA hB ne (C := (A ++ B).mergeSort (fun a b => decide (a ≤ b))) (List.mergeSort_perm _ _) ?_) fun u hu => h u (List.mem_cons_of_mem _ hu)
      have q := List.pairwise_mergeSort (le := fun a b : Int => decide (a ≤ b)) (fun a b c h1 h2 => by
        have h1 := of_decide_eq_true h1
        have h2 := of_decide_eq_true h2
        exact decide_eq_true (by omega)) (fun a b => by
        rcases Int.le_total a b with z | z
        · simp [z]
        · simp [z]) (A ++ B)
      exact q.imp fun {a b} z => of_decide_eq_true z
theorem Rel.rows_ne {n : Nat} {L : List Int} {Ps : List (List Int)} (R : Rel n L Ps) (h : 1 ≤ n) : rowsOf n L ≠ [] := by
  obtain ⟨B, hB, xB⟩ := R.cov 0 (by omega) (by omega)
  obtain ⟨h0, h1, e⟩ := R.mark B hB _ (head_mem (R.ne B hB))
  intro z
  have : rowAt n L (B.headD 0) ∈ rowsOf n L := List.mem_map.mpr ⟨B.headD 0, List.mem_filter.mpr ⟨mem_upto.mpr ⟨h0, h1⟩, by simpa using e⟩, rfl⟩
  rw [z] at this
  cases this
theorem rowsOf_small (n : Nat) (L : List Int) : (rowsOf n L).length ≤ n ∧ ∀ B ∈ rowsOf n L, B.length ≤ n ∧ ∀ x ∈ B, 0 ≤ x ∧ x < n := by
  refine ⟨?_, fun B hB => ?_⟩
  · unfold rowsOf
    rw [List.length_map]
    exact Nat.le_trans (List.length_filter_le _ _) (by rw [upto_length]; exact Nat.le_refl _)
  · obtain ⟨m, _, rfl⟩ := List.mem_map.mp hB
    refine ⟨Nat.le_trans (List.length_filter_le _ _) (by rw [upto_length]; exact Nat.le_refl _), fun x hx => mem_upto.mp (List.mem_filter.mp hx).1⟩
end
end TA
set_option maxHeartbeats 4000000
namespace TA
open PySem PySem.Spec PyProof.Rows L2
def topS (i : Nat) : Stmt := PySem.Challenge.pw_treesapart_k13_parts_by.main.body.getD i (.Pass ⟨0, 0, 0, 0⟩)
abbrev sNth : Stmt := topS 3
abbrev sPot : Stmt := topS 4
abbrev sTake : Stmt := topS 5
/-! ### heaps -/
/-- all but what stands at p is as it was -/
def Fro (p : Addr) (H H' : Hp) : Prop := ∀ q o, q ≠ p → H q = some o → H' q = some o
theorem Fro.refl (p : Addr) (H : Hp) : Fro p H H := fun _ _ _ h => h
theorem Fro.trans {p : Addr} {H H1 H2 : Hp} (a : Fro p H H1) (b : Fro p H1 H2) : Fro p H H2 := fun q o n h => b q o n (a q o n h)
theorem Fro.new {p r : Addr} {H H' : Hp} {u : HO} (a : Fro p H H') (n : H' r = none) : Fro p H (upd H' r u) := fun q o m h => by
  rw [upd_ne (ne_of_none (a q o m h) n)]
  exact a q o m h
theorem Fro.at {p : Addr} {H H' : Hp} {u : HO} (a : Fro p H H') : Fro p H (upd H' p u) := fun q o m h => by
  rw [upd_ne m]
  exact a q o m h
theorem Fro.same {p : Addr} {H H' : Hp} (a : Same H H') : Fro p H H' := fun q o _ h => a q o h
/-- a pot of draws -/
def Pot (H : Hp) (p : Addr) : Prop := ∃ a b : Int, H p = some (.lst [.int a, .int b]) ∧ 0 ≤ a ∧ 0 ≤ b ∧ b < 1099511627776
section
variable {P : Program} {w : World} {K : PySem.W.Frag} {mg : Str → Option Value} {b0 : Heap}
theorem scNth : FnScope ["_law_script", "_law_k"] ["_law_script", "_law_k"] (defScope sNth) := ⟨rfl, rfl, rfl, by decide +kernel, rfl, by decide +kernel, by decide +kernel⟩
def spNth (K : PySem.W.Frag) : Sp := fun vs H Q _ => ∃ (a : Addr) (ns : List Int) (k : Nat), vs = [.ref a, .int k] ∧ SqL K H a (ns.map V.int) ∧ Q (.int (ns.getD k 0)) H
theorem ok_nth {f : Addr} {fd : FuncData} {k : Nat} (F : Fun K "_law_nth" "_law_nth" sNth f fd) (ml : mg "len" = none) : FnOk P w K mg b0 CX0 (k + 1) f fd ["_law_script", "_law_k"] (spNth K) := by
  refine F.ok scNth (fun vs H Q E h => ?_) (fun cdv A outer s H vs Q E hr h => ?_)
  · obtain ⟨a, ns, k, rfl, _⟩ := h
    rfl
  · obtain ⟨a, ns, k, rfl, hS, q⟩ := h
    refine ⟨_, pss_one (ps_ret (pe_ifExp (pt_cmpR op_lt (pv 1) (pe_callB call_len_seq (by rfl) ml PySem.boot_len (pa_cons (pv 0) pa_nil)) (nomark _))
      (pe_ix ix_list (pv 0) (pv 1) (fun _ _ => rfl)) pe_int)), ?_⟩
    refine ⟨_, rfl, .ref a, rfl, a, _, rfl, .inl hS, _, _, rfl, rfl, _, rfl, ?_⟩
    rw [List.length_map]
    refine ite2 (fun e => ?_) (fun e => ?_)
    · have hk : k < ns.length := by have := of_decide_eq_true e; omega
      refine ⟨_, rfl, _, rfl, a, _, _, .int ns[k], rfl, rfl, hS, atI_nat (by rw [List.getElem?_map, List.getElem?_eq_getElem hk]; rfl), ?_⟩
      rw [List.getD_eq_getElem?_getD, List.getElem?_eq_getElem hk] at q
      exact q
    · have hk : ns.length ≤ k := by
        rcases Nat.lt_or_ge k ns.length with z | z
        · exact absurd (decide_eq_true (by omega)) e
        · exact z
      rw [List.getD_eq_getElem?_getD, List.getElem?_eq_none hk] at q
      exact q
theorem scPot : FnScope ["_law_script", "_law_k", "_law_cell"] ["_law_script", "_law_k"] (defScope sPot) := ⟨rfl, rfl, rfl, by decide +kernel, rfl, by decide +kernel, by decide +kernel⟩
def spPot (K : PySem.W.Frag) : Sp := fun vs H Q _ => ∃ (a : Addr) (ns : List Int) (k : Nat), vs = [.ref a, .int k] ∧ k < 1000 ∧ SqL K H a (ns.map V.int) ∧
  ∀ p H', H p = none → Same H H' → Pot H' p → Q (.ref p) H'
theorem ok_pot {f fN : Addr} {fd fdN : FuncData} (F : Fun K "_law_pot" "_law_pot" sPot f fd) (FN : Fun K "_law_nth" "_law_nth" sNth fN fdN) (bN : Binds K fdN ["_law_script", "_law_k"] [])
    (gN : mg "_law_nth" = some (.ref fN)) (ml : mg "len" = none) (mx : mg "max" = none) (ma : mg "abs" = none) : FnOk P w K mg b0 CX0 2 f fd ["_law_script", "_law_k"] (spPot K) := by
  have GN : FnOk P w K mg b0 CX0 1 fN fdN ["_law_script", "_law_k"] (spNth K) := ok_nth FN ml
  refine F.ok scPot (fun vs H Q E h => ?_) (fun cdv A outer s H vs Q E hr h => ?_)
  · obtain ⟨a, ns, k, rfl, _⟩ := h
    rfl
  · obtain ⟨a, ns, k, rfl, hk, hS, q⟩ := h
    refine ⟨_, pss_cons (ps_set (i := 2) scPot.nd rfl (.inl rfl) (pe_call GN hr (by rfl) gN FN.kp bN .nil pass0 (pa_cons (pv 0) (pa_cons (pv 1) pa_nil))))
      (pss_one (ps_ret (pe_lst (pa_cons (pe_callB (call_max2 rfl) (by rfl) mx (by decide +kernel) (pa_cons pe_int (pa_cons (pe_op op_sub (pe_callB call_abs (by rfl) ma (by decide +kernel) (pa_cons (pv 2) pa_nil)) (pe_op op_pow pe_int pe_int)) pa_nil)))
        (pa_cons (pe_op op_add (pe_op op_add (pe_op op_mod (pe_callB call_abs (by rfl) ma (by decide +kernel) (pa_cons (pv 2) pa_nil)) pe_int) (pe_op op_mul pe_int (pv 1))) pe_int) pa_nil))))), ?_⟩
    refine ⟨.ref a, rfl, .int k, rfl, a, ns, k, rfl, hS, ?_⟩
    generalize ns.getD k 0 = c
    refine ⟨_, rfl, _, rfl, _, _, rfl, rfl, ⟨by decide, by decide, by decide⟩, _, _, rfl, rfl, _, _, rfl, _, rfl, _, rfl, _, _, rfl, rfl, by show (0:Int) < 2147483563; decide, _, rfl, _, _, rfl, rfl, .inl ⟨by decide, by decide⟩, _, _, rfl, rfl, _, _, rfl, rfl, ?_⟩
    refine ⟨by show 2 ≤ sizeLine; decide, fun p np => q p _ np (fun b o e => by rw [upd_ne (ne_of_none e np)]; exact e) ⟨_, _, upd_same, ?_, ?_, ?_⟩⟩
    · split <;> omega
    · have := Int.emod_nonneg (if c < 0 then -c else c) (b := 2147483563) (by decide); omega
    · have := Int.emod_lt_of_pos (if c < 0 then -c else c) (b := 2147483563) (by decide); omega
end
end TA
set_option maxHeartbeats 4000000
namespace TA
open PySem PySem.Spec PyProof.Rows L2
section
variable {P : Program} {w : World} {K : PySem.W.Frag} {mg : Str → Option Value} {b0 : Heap}
theorem scTake : FnScope ["_law_pot_here", "_law_many", "_law_digit"] ["_law_pot_here", "_law_many"] (defScope sTake) := ⟨rfl, rfl, rfl, by decide +kernel, rfl, by decide +kernel, by decide +kernel⟩
def spTake : Sp := fun vs H Q _ => ∃ (p : Addr) (m : Int), vs = [.ref p, .int m] ∧ 0 < m ∧ m < 1073741824 ∧ Pot H p ∧
  ∀ d H', 0 ≤ d → d < m → Fro p H H' → Pot H' p → Q (.int d) H'
theorem ok_take {f : Addr} {fd : FuncData} {k : Nat} (F : Fun K "_law_take" "_law_take" sTake f fd) (md : mg "divmod" = none) : FnOk P w K mg b0 CX0 (k + 1) f fd ["_law_pot_here", "_law_many"] spTake := by
  refine F.ok scTake (fun vs H Q E h => ?_) (fun cdv A outer s H vs Q E hr h => ?_)
  · obtain ⟨p, m, rfl, _⟩ := h
    rfl
  · obtain ⟨p, m, rfl, h0, h1, ⟨a, b, hp, ha, hb, hb2⟩, q⟩ := h
    refine ⟨_, pss_cons (ps_if (pt_cmpR op_gt (pe_ix ix_list (pv 0) pe_int (fun _ _ => rfl)) pe_int (nomark _))
        (pss_cons (ps_asg (pe_callB call_divmod (by rfl) md (by decide +kernel) (pa_cons (pe_ix ix_list (pv 0) pe_int (fun _ _ => rfl)) (pa_cons (pv 1) pa_nil)))
          (pg_tup rfl (pgs_cons (pg_sub (pv 0) pe_int set_list) (pgs_cons (pg_name (i := 2) scTake.nd rfl (.inl rfl)) pgs_nil))))
        (pss_one (ps_ret (pv 2)))) pss_nil)
      (pss_cons (ps_asg (pe_op op_mod (pe_op op_add (pe_op op_mul (pe_ix ix_list (pv 0) pe_int (fun _ _ => rfl)) pe_int) pe_int) pe_int) (pg_sub (pv 0) pe_int set_list))
      (pss_one (ps_ret (pe_op op_mod (pe_op op_fdiv (pe_op op_mod (pe_op op_mul (pe_ix ix_list (pv 0) pe_int (fun _ _ => rfl)) (pe_ix ix_list (pv 0) pe_int (fun _ _ => rfl))) pe_int) pe_int) (pv 1))))), ?_⟩
    refine ⟨_, rfl, p, _, 0, .int a, rfl, rfl, SqL.of hp, rfl, _, _, rfl, rfl, _, rfl, ite2 (fun e => ?_) (fun e => ?_)⟩
    · have e' := of_decide_eq_true e
      refine ⟨_, rfl, p, _, 0, .int a, rfl, rfl, SqL.of hp, rfl, _, rfl, a, m, rfl, ⟨h0, h1⟩, fun t nt => ?_⟩
      have tp : p ≠ t := ne_of_none hp nt
      refine ⟨t, _, rfl, SqT.of upd_same, rfl, _, _, rfl, _, rfl, p, [.int a, .int b], 0, 0, rfl, rfl, by rw [upd_ne tp]; exact hp, rfl, _, _, rfl, rfl, _, rfl, ?_⟩
      refine q (a % m) _ (Int.emod_nonneg _ (by omega)) (Int.emod_lt_of_pos _ h0) ((Fro.refl p H).new nt).at ⟨a / m, b, upd_same, ?_, hb, hb2⟩
      exact Int.ediv_nonneg ha (by omega)
    · refine ⟨_, rfl, p, _, 1, .int b, rfl, rfl, SqL.of hp, rfl, _, _, rfl, rfl, .inr ⟨by decide, by decide⟩, _, _, rfl, rfl, _, _, rfl, rfl, by show (0 : Int) < 2147483629; decide, _, rfl, p, _, 1, 1, rfl, rfl, hp, rfl, ?_⟩
      have c0 : 0 ≤ (b * 39373 + 7919) % 2147483629 := Int.emod_nonneg _ (by decide)
      have c1 : (b * 39373 + 7919) % 2147483629 < 2147483629 := Int.emod_lt_of_pos _ (by decide)
      refine ⟨_, rfl, p, _, 1, _, rfl, rfl, SqL.of upd_same, rfl, _, rfl, p, _, 1, _, rfl, rfl, SqL.of upd_same, rfl, _, _, rfl, rfl, .inl ⟨Int.lt_of_lt_of_le (by decide) c0, Int.lt_trans c1 (by decide)⟩, _, _, rfl, rfl, by show (0 : Int) < 2147483563; decide,
        _, _, rfl, rfl, ⟨by decide, by decide⟩, _, rfl, _, _, rfl, rfl, h0, ?_⟩
      exact q _ _ (Int.emod_nonneg _ (by omega)) (Int.emod_lt_of_pos _ h0) (Fro.refl p H).at ⟨a, _, upd_same, ha, c0, Int.lt_trans c1 (by decide)⟩
end
end TA
set_option maxHeartbeats 4000000
namespace TA
open PySem PySem.Spec PyProof.Rows L2
abbrev sParts : Stmt := topS 1
def lcSc : Expr → Scope
  | .ListComp _ _ s _ => s
  | _ => { kind := .function, names := [], isGenerator := false, isCoroutine := false }
def retE : Stmt → Expr
  | .Return (some e) _ => e
  | _ => .Constant .none 0 ⟨0, 0, 0, 0⟩
/-! ### webs and numbers in a heap -/
/-- what is a tuple stays one -/
def TupK (H H' : Hp) : Prop := ∀ t xs, H t = some (.tup xs) → H' t = some (.tup xs)
theorem TupK.same {H H' : Hp} (s : Same H H') : TupK H H' := fun t xs h => s t _ h
theorem TupK.fro {H H' : Hp} {p : Addr} {ys : List V} (hp : H p = some (.lst ys)) (s : Fro p H H') : TupK H H' := fun t xs h => s t _ (ne_of h hp (by intro z; cases z)) h
theorem TupK.lst {H : Hp} {p : Addr} {ys : List V} {u : HO} (hp : H p = some (.lst ys)) : TupK H (upd H p u) := fun t xs h => by
  rw [upd_ne (ne_of h hp (by intro z; cases z))]
  exact h
theorem TupK.new {H : Hp} {p : Addr} {u : HO} (hp : H p = none) : TupK H (upd H p u) := fun t xs h => by
  rw [upd_ne (ne_of_none h hp)]
  exact h
theorem TupK.trans {H H1 H2 : Hp} (a : TupK H H1) (b : TupK H1 H2) : TupK H H2 := fun t xs h => b t xs (a t xs h)
def TieIs (H : Hp) (x : V) (t : Int × Int) : Prop := ∃ a, x = .ref a ∧ H a = some (.tup [.int t.1, .int t.2])
def TiesAt (H : Hp) (xs : List V) (ts : List (Int × Int)) : Prop := Paired (TieIs H) xs ts
theorem TiesAt.mono {H H' : Hp} (k : TupK H H') {xs : List V} {ts : List (Int × Int)} (h : TiesAt H xs ts) : TiesAt H' xs ts := Paired.mapP h fun _ _ ⟨a, e, h⟩ => ⟨a, e, k _ _ h⟩
theorem TiesAt.get {H : Hp} : ∀ {xs : List V} {ts : List (Int × Int)} {i : Nat} {t : Int × Int}, TiesAt H xs ts → ts[i]? = some t → ∃ x, xs[i]? = some x ∧ TieIs H x t
  | _, _, i, t, .nil, e => by simp at e
  | _, _, 0, t, .cons r _, e => by simp at e; subst e; exact ⟨_, rfl, r⟩
  | _, _, i + 1, t, .cons _ r, e => by
    obtain ⟨x, h1, h2⟩ := TiesAt.get (i := i) (t := t) r (by simpa using e)
    exact ⟨x, by simpa using h1, h2⟩
structure WebAt (H : Hp) (v : V) (n : Nat) (ts : List (Int × Int)) : Prop where
  at_ : ∃ r t xs, v = .ref r ∧ H r = some (.tup [.int n, .ref t]) ∧ H t = some (.tup xs) ∧ TiesAt H xs ts
theorem WebAt.mono {H H' : Hp} (k : TupK H H') {v : V} {n : Nat} {ts : List (Int × Int)} (h : WebAt H v n ts) : WebAt H' v n ts := by
  obtain ⟨r, t, xs, h1, h2, h3, h4⟩ := h.at_
  exact ⟨r, t, xs, h1, k _ _ h2, k _ _ h3, h4.mono k⟩
structure WebOk (n : Nat) (ts : List (Int × Int)) : Prop where
  lo : 1 ≤ n
  hi : n ≤ 9
  few : ts.length ≤ 30
  tie : ∀ t ∈ ts, 0 ≤ t.1 ∧ t.1 < t.2 ∧ t.2 < n
/-- the ties of some numbers -/
def pick (ts : List (Int × Int)) (ks : List Nat) : List (Int × Int) := ks.map fun k => ts.getD k (0, 0)
abbrev numV (ks : List Nat) : List V := ks.map fun (k : Nat) => V.int (k : Int)
/-- a list of new lists of upto -/
def RowsAt (H0 H : Hp) (r : Addr) (rows : List (List Int)) : Prop := ∃ xs, H r = some (.lst xs) ∧ Paired (fun x row => ∃ a, x = .ref a ∧ a ≠ r ∧ H0 a = none ∧ H a = some (.lst (row.map V.int))) xs rows
theorem at_int {L : List Int} {a : Int} (h0 : 0 ≤ a) (h1 : a < L.length) : atI (L.map V.int) a = some (.int (at0 L a)) := by
  have h : a.toNat < L.length := by omega
  have e : a = ((a.toNat : Nat) : Int) := by omega
  rw [e]
  refine atI_nat ?_
  unfold at0
  rw [← e, List.getElem?_map, List.getD_eq_getElem?_getD, List.getElem?_eq_getElem h]
  rfl
theorem leastOf_length (n : Nat) : ∀ (ts : List (Int × Int)) (L : List Int), L.length = n → (ts.foldl stepL L).length = n
  | [], L, h => h
  | t :: ts, L, h => leastOf_length n ts _ (by unfold stepL; rw [remark_length]; exact h)
theorem rgV_upto (n : Nat) : rgV 0 n = (upto n).map V.int := by
  unfold rgV upto
  rw [List.map_map]
  have e : ((n : Int) - 0).toNat = n := by omega
  rw [e]
  refine List.map_congr_left fun i _ => ?_
  show V.int (0 + (i : Int)) = V.int (i : Int)
  rw [Int.zero_add]
theorem same_new {H : Hp} {p : Addr} {o : HO} (h : H p = none) : Same H (upd H p o) := fun b x e => by
  rw [upd_ne (ne_of_none e h)]
  exact e
theorem take_succ {α : Type} {l : List α} {i : Nat} {x : α} (h : l[i]? = some x) : l.take (i + 1) = l.take i ++ [x] := by
  rw [List.take_add_one, h]
  rfl
section
variable {P : Program} {w : World} {K : PySem.W.Frag} {mg : Str → Option Value} {b0 : Heap}
abbrev nParts : List Str := ["web", "numbers", "places", "ties", "least", "number", "a", "b", "low", "high", "mark", "place"]
theorem scParts : FnScope nParts ["web", "numbers"] (defScope sParts) := ⟨rfl, rfl, rfl, by decide +kernel, rfl, by decide +kernel, by decide +kernel⟩
def spParts (K : PySem.W.Frag) : Sp := fun vs H Q _ => ∃ (v : V) (a : Addr) (n : Nat) (ts : List (Int × Int)) (ks : List Nat), vs = [v, .ref a] ∧ WebAt H v n ts ∧ WebOk n ts ∧
  (SqL K H a (numV ks) ∨ SqT K H a (numV ks)) ∧ (∀ k ∈ ks, k < ts.length) ∧
  ∀ r H', H r = none → Same H H' → RowsAt H H' r (rowsOf n (leastOf n (pick ts ks))) → Q (.ref r) H'
/-- between two turns -/
def PvP (H : Hp) (r a : Addr) (n : Nat) (t : Addr) (ts : List (Int × Int)) (ks : List Nat) (i : Nat) (σ : L2.St) (H3 : Hp) : Prop :=
  ∃ (l : Addr) (y5 y6 y7 y8 y9 : Option V), σ = [some (.ref r), some (.ref a), some (.int n), some (.ref t), some (.ref l), y5, y6, y7, y8, y9, none, none] ∧
    Same H H3 ∧ H l = none ∧ H3 l = some (.lst ((leastOf n (pick ts (ks.take i))).map V.int))
theorem paired_snoc {α β : Type} {R : α → β → Prop} : ∀ {l : List α} {m : List β} {x : α} {y : β}, Paired R l m → R x y → Paired R (l ++ [x]) (m ++ [y])
  | _, _, _, _, .nil, h => .cons h .nil
  | _, _, _, _, .cons r t, h => .cons r (paired_snoc t h)
theorem sqT_same {K : PySem.W.Frag} {H H' : Hp} {a : Addr} {xs : List V} (e : Same H H') (h : SqT K H a xs) : SqT K H' a xs := by
  rcases h with (h | ⟨o, h⟩) | h
  · exact .inl (.inl (e _ _ h))
  · exact .inl (.inr ⟨o, e _ _ h⟩)
  · exact .inr h
set_option maxHeartbeats 8000000 in
theorem ok_parts {f : Addr} {fd : FuncData} {k : Nat} (F : Fun K "parts_by" "parts_by" sParts f fd) (mli : mg "list" = none) (mra : mg "range" = none) (mmi : mg "min" = none) (mma : mg "max" = none) :
    FnOk P w K mg b0 CX0 (k + 1) f fd ["web", "numbers"] (spParts K) := by
  refine F.ok scParts (fun vs H Q E h => ?_) (fun cdv A outer s H vs Q E hr h => ?_)
  · obtain ⟨v, a, n, ts, ks, rfl, _⟩ := h
    rfl
  · obtain ⟨v, a, n, ts, ks, rfl, hw, ok, hN, hks, q⟩ := h
    obtain ⟨r, t, xs, rfl, hr1, ht1, hT⟩ := hw.at_
    rcases hN with hN | hN
    case' inl =>
      refine ⟨_, pss_cons (ps_asg (pv 0) (pg_tup rfl (pgs_cons (pg_name (i := 2) scParts.nd rfl (.inr rfl)) (pgs_cons (pg_name (i := 3) scParts.nd rfl (.inl rfl)) pgs_nil))))
        (pss_cons (ps_set (i := 4) scParts.nd rfl (.inr rfl) (pe_listRg rfl (by rfl) mli (prg_1 (by rfl) mra (pv 2))))
        (pss_cons (ps_for PassesOwn.never rfl (pi_list (pv 1)) (pg_name (i := 5) scParts.nd rfl (.inl rfl))
          (pss_cons (ps_asg (pe_ix ix_tup (pv 3) (pv 5) (fun _ _ => rfl)) (pg_tup rfl (pgs_cons (pg_name (i := 6) scParts.nd rfl (.inl rfl)) (pgs_cons (pg_name (i := 7) scParts.nd rfl (.inl rfl)) pgs_nil))))
          (pss_cons (ps_asg (pe_tup (pa_cons (pe_callB (call_min2 rfl) (by rfl) mmi (by decide +kernel) (pa_cons (pe_ix ix_list (pv 4) (pv 6) (fun _ _ => rfl)) (pa_cons (pe_ix ix_list (pv 4) (pv 7) (fun _ _ => rfl)) pa_nil)))
              (pa_cons (pe_callB (call_max2 rfl) (by rfl) mma (by decide +kernel) (pa_cons (pe_ix ix_list (pv 4) (pv 6) (fun _ _ => rfl)) (pa_cons (pe_ix ix_list (pv 4) (pv 7) (fun _ _ => rfl)) pa_nil))) pa_nil)))
            (pg_tup rfl (pgs_cons (pg_name (i := 8) scParts.nd rfl (.inr rfl)) (pgs_cons (pg_name (i := 9) scParts.nd rfl (.inr rfl)) pgs_nil))))
          (pss_one (ps_set (i := 4) scParts.nd rfl (.inr rfl) (pe_lc (own := [("mark", 10)]) (g := gName 10) (tt := tYes) rfl scParts.nd (pi_list (pv 4)) (blkOk_by (N := nParts) (sc := defScope sParts) (by decide +kernel))
            (fun _ _ _ _ _ => pg_name (i := 10) scParts.nd rfl (.inl rfl)) (fun _ _ _ _ _ => pts_nil) (fun _ _ _ _ _ => pe_ifExp (pt_cmpR op_eq (pv 10) (pv 9) (nomark _)) (pv 8) (pv 10))))))))
        (pss_one (ps_ret (pe_lc (own := [("mark", 10)]) (g := gName 10) rfl scParts.nd (pi_range1 (by rfl) mra (pa_cons (pv 2) pa_nil)) (blkOk_by (N := nParts) (sc := defScope sParts) (by decide +kernel))
            (fun _ _ _ _ _ => pg_name (i := 10) scParts.nd rfl (.inr rfl)) (fun _ _ _ _ _ => pts_one (pt_cmpR op_eq (pe_ix (r := rIxL K) ix_list (pv 4) (pv 10) (fun _ _ => rfl)) (pv 10) (nomark _)))
            (fun _ _ _ _ _ => pe_lc (own := [("place", 11)]) (g := gName 11) rfl scParts.nd (pi_range1 (by rfl) mra (pa_cons (pv 2) pa_nil)) (blkOk_by (N := nParts) (sc := relS (lcSc (retE ((defBody sParts).getD 3 (.Pass ⟨0, 0, 0, 0⟩)))) (defScope sParts)) (by decide +kernel))
              (fun _ _ _ _ _ => pg_name (i := 11) scParts.nd rfl (.inl rfl)) (fun _ _ _ _ _ => pts_one (pt_cmpR op_eq (pe_ix (r := rIxL K) ix_list (pv 4) (pv 11) (fun _ _ => rfl)) (pv 10) (nomark _)))
              (fun _ _ _ _ _ => pv 11))))))), ?_⟩
    case' inr =>
      refine ⟨_, pss_cons (ps_asg (pv 0) (pg_tup rfl (pgs_cons (pg_name (i := 2) scParts.nd rfl (.inr rfl)) (pgs_cons (pg_name (i := 3) scParts.nd rfl (.inl rfl)) pgs_nil))))
        (pss_cons (ps_set (i := 4) scParts.nd rfl (.inr rfl) (pe_listRg rfl (by rfl) mli (prg_1 (by rfl) mra (pv 2))))
        (pss_cons (ps_for PassesOwn.never rfl (pi_tup (pv 1)) (pg_name (i := 5) scParts.nd rfl (.inl rfl))
          (pss_cons (ps_asg (pe_ix ix_tup (pv 3) (pv 5) (fun _ _ => rfl)) (pg_tup rfl (pgs_cons (pg_name (i := 6) scParts.nd rfl (.inl rfl)) (pgs_cons (pg_name (i := 7) scParts.nd rfl (.inl rfl)) pgs_nil))))
          (pss_cons (ps_asg (pe_tup (pa_cons (pe_callB (call_min2 rfl) (by rfl) mmi (by decide +kernel) (pa_cons (pe_ix ix_list (pv 4) (pv 6) (fun _ _ => rfl)) (pa_cons (pe_ix ix_list (pv 4) (pv 7) (fun _ _ => rfl)) pa_nil)))
              (pa_cons (pe_callB (call_max2 rfl) (by rfl) mma (by decide +kernel) (pa_cons (pe_ix ix_list (pv 4) (pv 6) (fun _ _ => rfl)) (pa_cons (pe_ix ix_list (pv 4) (pv 7) (fun _ _ => rfl)) pa_nil))) pa_nil)))
            (pg_tup rfl (pgs_cons (pg_name (i := 8) scParts.nd rfl (.inr rfl)) (pgs_cons (pg_name (i := 9) scParts.nd rfl (.inr rfl)) pgs_nil))))
          (pss_one (ps_set (i := 4) scParts.nd rfl (.inr rfl) (pe_lc (own := [("mark", 10)]) (g := gName 10) (tt := tYes) rfl scParts.nd (pi_list (pv 4)) (blkOk_by (N := nParts) (sc := defScope sParts) (by decide +kernel))
            (fun _ _ _ _ _ => pg_name (i := 10) scParts.nd rfl (.inl rfl)) (fun _ _ _ _ _ => pts_nil) (fun _ _ _ _ _ => pe_ifExp (pt_cmpR op_eq (pv 10) (pv 9) (nomark _)) (pv 8) (pv 10))))))))
        (pss_one (ps_ret (pe_lc (own := [("mark", 10)]) (g := gName 10) rfl scParts.nd (pi_range1 (by rfl) mra (pa_cons (pv 2) pa_nil)) (blkOk_by (N := nParts) (sc := defScope sParts) (by decide +kernel))
            (fun _ _ _ _ _ => pg_name (i := 10) scParts.nd rfl (.inr rfl)) (fun _ _ _ _ _ => pts_one (pt_cmpR op_eq (pe_ix (r := rIxL K) ix_list (pv 4) (pv 10) (fun _ _ => rfl)) (pv 10) (nomark _)))
            (fun _ _ _ _ _ => pe_lc (own := [("place", 11)]) (g := gName 11) rfl scParts.nd (pi_range1 (by rfl) mra (pa_cons (pv 2) pa_nil)) (blkOk_by (N := nParts) (sc := relS (lcSc (retE ((defBody sParts).getD 3 (.Pass ⟨0, 0, 0, 0⟩)))) (defScope sParts)) (by decide +kernel))
              (fun _ _ _ _ _ => pg_name (i := 11) scParts.nd rfl (.inl rfl)) (fun _ _ _ _ _ => pts_one (pt_cmpR op_eq (pe_ix (r := rIxL K) ix_list (pv 4) (pv 11) (fun _ _ => rfl)) (pv 10) (nomark _)))
              (fun _ _ _ _ _ => pv 11))))))), ?_⟩
    all_goals refine ⟨_, rfl, r, _, rfl, SqT.of hr1, rfl, _, _, rfl, _, _, rfl, rfl, ?_⟩
    all_goals refine ⟨_, rfl, n, rfl, RgOk.of_le (by omega) (by have := ok.hi; omega) (by omega) (by omega), fun l0 nl0 => ?_⟩
    all_goals rw [rgV_upto n]
    all_goals refine ⟨_, rfl, a, rfl, ?_⟩
    all_goals have hS1 : Same H (upd H l0 (.lst ((upto n).map V.int))) := same_new nl0
    · refine ⟨⟨_, sqT_same hS1 hN⟩, for_tup (xs := numV ks) (PvP H r a n t ts ks) ⟨l0, none, none, none, none, none, rfl, hS1, nl0, upd_same⟩ (fun i σ H3 _ hW => ?_) (fun i x σ H3 hx hW => ?_) (fun σ H3 hW => ?_)⟩
      · obtain ⟨_, _, _, _, _, _, _, sm, _⟩ := hW
        exact sqT_same sm hN
      · obtain ⟨l, y5, y6, y7, y8, y9, rfl, sm, nl, hl⟩ := hW
        obtain ⟨k, hk, ek⟩ : ∃ k, ks[i]? = some k ∧ x = .int (k : Int) := by
          rw [List.getElem?_map] at hx
          cases e : ks[i]? with
          | none => rw [e] at hx; cases hx
          | some k => rw [e] at hx; cases hx; exact ⟨k, rfl, rfl⟩
        subst ek
        have hkl : k < ts.length := hks k (List.mem_of_getElem? hk)
        obtain ⟨⟨u1, u2⟩, hu⟩ : ∃ u, ts[k]? = some u := ⟨ts[k], List.getElem?_eq_getElem hkl⟩
        obtain ⟨xt, hxt, ta, rfl, hta⟩ := (hT.mono (TupK.same sm)).get hu
        obtain ⟨hu0, hu1, hu2⟩ := ok.tie _ (List.mem_of_getElem? hu)
        have hu0 : 0 ≤ u1 := hu0
        have hu1 : u1 < u2 := hu1
        have hu2 : u2 < n := hu2
        have hLn : (leastOf n (pick ts (ks.take i))).length = n := leastOf_length n _ _ (upto_length n)
        have hstep : leastOf n (pick ts (ks.take (i + 1))) = remark (at0 (leastOf n (pick ts (ks.take i))) u1) (at0 (leastOf n (pick ts (ks.take i))) u2) (leastOf n (pick ts (ks.take i))) := by
          have e2 : ts.getD k (0, 0) = (u1, u2) := by rw [List.getD_eq_getElem?_getD, hu]; rfl
          unfold leastOf pick
          rw [take_succ hk, List.map_append, List.foldl_append]
          simp only [List.map_cons, List.map_nil, List.foldl_cons, List.foldl_nil, e2]
          rfl
        generalize leastOf n (pick ts (ks.take i)) = L at hl hLn hstep
        have a1 : atI (L.map V.int) u1 = some (.int (at0 L u1)) := at_int hu0 (by omega)
        have a2 : atI (L.map V.int) u2 = some (.int (at0 L u2)) := at_int (by omega) (by omega)
        refine ⟨_, rfl, _, rfl, t, xs, k, _, rfl, rfl, SqT.of (sm _ _ ht1), atI_nat hxt, ta, _, rfl, SqT.of hta, rfl, _, _, rfl, _, _, rfl, rfl, ?_⟩
        refine ⟨_, rfl, _, rfl, l, _, _, _, rfl, rfl, SqL.of hl, a1, _, rfl, _, rfl, l, _, _, _, rfl, rfl, SqL.of hl, a2, _, _, rfl, ?_⟩
        refine ⟨_, rfl, _, rfl, l, _, _, _, rfl, rfl, SqL.of hl, a1, _, rfl, _, rfl, l, _, _, _, rfl, rfl, SqL.of hl, a2, _, _, rfl, by show 2 ≤ sizeLine; decide, fun pr npr => ?_⟩
        refine ⟨pr, _, rfl, SqT.of upd_same, rfl, _, _, rfl, _, _, rfl, rfl, ?_⟩
        have sm2 : Same H (upd H3 pr (.tup [.int (lowOf (at0 L u1) (at0 L u2)), .int (highOf (at0 L u1) (at0 L u2))])) := sm.trans (same_new npr)
        have hl2 : (upd H3 pr (.tup [.int (lowOf (at0 L u1) (at0 L u2)), .int (highOf (at0 L u1) (at0 L u2))])) l = some (.lst (L.map V.int)) := same_new npr _ _ hl
        refine ⟨_, rfl, l, rfl, ⟨_, SqL.of hl2⟩, fun D nD => ?_⟩
        have lD : l ≠ D := ne_of_none hl2 nD
        refine lc_list (K := K) (a := l) (xs := L.map V.int) (fun j H4 => H4 = upd (upd H3 pr (.tup [.int (lowOf (at0 L u1) (at0 L u2)), .int (highOf (at0 L u1) (at0 L u2))])) D (.lst (((remark (at0 L u1) (at0 L u2) L).take j).map V.int))) rfl (fun j H4 _ e => ?_) (fun j x H4 hx e => ?_) (fun H4 e => ?_)
        · rw [e]
          exact SqL.of (by rw [upd_ne lD]; exact hl2)
        · subst e
          obtain ⟨m, hm, rfl⟩ : ∃ m, L[j]? = some m ∧ x = .int m := by
            rw [List.getElem?_map] at hx
            cases e : L[j]? with
            | none => rw [e] at hx; cases hx
            | some m => rw [e] at hx; cases hx; exact ⟨m, rfl, rfl⟩
          have hrm : (remark (at0 L u1) (at0 L u2) L)[j]? = some (if m = highOf (at0 L u1) (at0 L u2) then lowOf (at0 L u1) (at0 L u2) else m) := by
            unfold remark
            rw [List.getElem?_map, hm]
            rfl
          have hjl : j < L.length := (List.getElem?_eq_some_iff.mp hm).1
          have fin : ∀ y, y = .int (if m = highOf (at0 L u1) (at0 L u2) then lowOf (at0 L u1) (at0 L u2) else m) → ∃ acc, (upd (upd H3 pr (.tup [.int (lowOf (at0 L u1) (at0 L u2)), .int (highOf (at0 L u1) (at0 L u2))])) D (.lst (((remark (at0 L u1) (at0 L u2) L).take j).map V.int))) D = some (.lst acc) ∧ acc.length < sizeLine ∧
              upd (upd (upd H3 pr (.tup [.int (lowOf (at0 L u1) (at0 L u2)), .int (highOf (at0 L u1) (at0 L u2))])) D (.lst (((remark (at0 L u1) (at0 L u2) L).take j).map V.int))) D (.lst (acc ++ [y])) = upd (upd H3 pr (.tup [.int (lowOf (at0 L u1) (at0 L u2)), .int (highOf (at0 L u1) (at0 L u2))])) D (.lst (((remark (at0 L u1) (at0 L u2) L).take (j + 1)).map V.int)) := fun y ey => by
            refine ⟨_, upd_same, ?_, ?_⟩
            · rw [List.length_map, List.length_take]
              exact small1000 (by have := ok.hi; omega)
            · rw [upd_upd, take_succ hrm, List.map_append, ey]
              rfl
          refine ⟨rfl, _, rfl, _, rfl, rfl, _, rfl, ite2 (fun e => ?_) (fun e => ?_)⟩
          · have e' : m = highOf (at0 L u1) (at0 L u2) := V.int.inj (of_decide_eq_true e)
            exact ⟨_, rfl, fin _ (by rw [if_pos e']; rfl)⟩
          · have e' : ¬ m = highOf (at0 L u1) (at0 L u2) := fun z => e (decide_eq_true (by rw [z]; rfl))
            exact ⟨_, rfl, fin _ (by rw [if_neg e'])⟩
        · subst e
          refine ⟨D, _, _, _, _, _, rfl, sm2.trans (same_new nD), (sm2.free nD), ?_⟩
          rw [upd_same, hstep, List.take_of_length_le (by rw [remark_length, List.length_map]; exact Nat.le_refl _)]
      · obtain ⟨l, y5, y6, y7, y8, y9, rfl, sm, nl, hl⟩ := hW
        rw [List.length_map, List.take_length] at hl
        have hLn : (leastOf n (pick ts ks)).length = n := leastOf_length n _ _ (upto_length n)
        generalize leastOf n (pick ts ks) = L at hl hLn q
        refine ⟨_, rfl, n, rfl, by omega, by have := ok.hi; omega, fun D nD => ?_⟩
        have lD : l ≠ D := ne_of_none hl nD
        have hn9 := ok.hi
        refine lc_range (lo := 0) (n := n) (fun j H4 => Same H3 H4 ∧ RowsAt H H4 D ((((upto n).take j).filter fun m => at0 L m == m).map (rowAt n L))) ⟨same_new nD, [], upd_same, .nil⟩ (fun j H4 hj hP => ?_) (fun H4 hP => ?_)
        · obtain ⟨sm4, ys, hD, hys⟩ := hP
          have hl4 := sm4 _ _ hl
          have hup : (upto n)[j]? = some (j : Int) := by
            unfold upto
            rw [List.getElem?_map, List.getElem?_range hj]
            rfl
          have hylen : ys.length ≤ n := by
            rw [Paired.length hys, List.length_map]
            exact Nat.le_trans (List.length_filter_le _ _) (by rw [List.length_take, upto_length]; omega)
          refine ⟨rfl, _, rfl, _, rfl, l, _, _, _, rfl, rfl, SqL.of hl4, at_int (by omega) (by omega), _, rfl, rfl, _, rfl, ite2 (fun e => ?_) (fun e => ?_)⟩
          · have e' : at0 L (0 + (j : Int)) = 0 + (j : Int) := V.int.inj (of_decide_eq_true e)
            rw [Int.zero_add] at e' ⊢
            refine ⟨_, rfl, n, rfl, by omega, by omega, fun D2 nD2 => ?_⟩
            have DD : D ≠ D2 := ne_of_none hD nD2
            have lD2 : l ≠ D2 := ne_of_none hl4 nD2
            refine lc_range (lo := 0) (n := n) (fun j2 H5 => H5 = upd H4 D2 (.lst ((((upto n).take j2).filter fun p => at0 L p == (j : Int)).map V.int))) rfl (fun j2 H5 hj2 e5 => ?_) (fun H5 e5 => ?_)
            · subst e5
              have hup2 : (upto n)[j2]? = some (j2 : Int) := by
                unfold upto
                rw [List.getElem?_map, List.getElem?_range hj2]
                rfl
              refine ⟨rfl, _, rfl, _, rfl, l, _, _, _, rfl, rfl, SqL.of (by rw [upd_ne lD2]; exact hl4), at_int (by omega) (by omega), _, rfl, rfl, _, rfl, ite2 (fun e2 => ?_) (fun e2 => ?_)⟩
              · have e2' : at0 L (0 + (j2 : Int)) = (j : Int) := V.int.inj (of_decide_eq_true e2)
                rw [Int.zero_add] at e2' ⊢
                refine ⟨_, rfl, _, upd_same, ?_, ?_⟩
                · rw [List.length_map]
                  exact small1000 (Nat.le_trans (List.length_filter_le _ _) (by rw [List.length_take, upto_length]; omega))
                · rw [upd_upd, take_succ hup2, List.filter_append, List.filter_cons_of_pos (by simpa using e2'), List.map_append]
                  rfl
              · have e2' : ¬ at0 L (j2 : Int) = (j : Int) := fun z => e2 (decide_eq_true (by rw [Int.zero_add, z]))
                rw [take_succ hup2, List.filter_append, List.filter_cons_of_neg (by simpa using e2'), List.filter_nil, List.append_nil]
            · subst e5
              have eT : (upto n).take n = upto n := List.take_of_length_le (by rw [upto_length]; exact Nat.le_refl _)
              rw [eT]
              refine ⟨_, (by rw [upd_ne DD]; exact hD), small1000 (by omega), fun b o hb => ?_, ys ++ [.ref D2], upd_same, ?_⟩
              · rw [upd_ne (ne_of_none hb nD), upd_ne (ne_of_none (sm4 _ _ hb) nD2)]
                exact sm4 _ _ hb
              · rw [take_succ hup, List.filter_append, List.filter_cons_of_pos (by simpa using e'), List.map_append]
                refine paired_snoc (Paired.mapP hys fun x row hx => ?_) ⟨D2, rfl, DD.symm, sm.free (sm4.free nD2), ?_⟩
                · obtain ⟨a', e1, ne1, n1, h1⟩ := hx
                  exact ⟨a', e1, ne1, n1, by rw [upd_ne ne1, upd_ne (ne_of_none h1 nD2)]; exact h1⟩
                · rw [upd_ne DD.symm, upd_same]
                  rfl
          · have e' : ¬ at0 L (j : Int) = (j : Int) := fun z => e (decide_eq_true (by rw [Int.zero_add, z]))
            refine ⟨sm4, ys, hD, ?_⟩
            rw [take_succ hup, List.filter_append, List.filter_cons_of_neg (by simpa using e'), List.filter_nil, List.append_nil]
            exact hys
        · obtain ⟨sm4, hR⟩ := hP
          rw [List.take_of_length_le (by rw [upto_length]; exact Nat.le_refl _)] at hR
          exact q D H4 (sm.free nD) (sm.trans sm4) hR
    · refine ⟨⟨_, hS1.seq hN⟩, for_list (xs := numV ks) (PvP H r a n t ts ks) ⟨l0, none, none, none, none, none, rfl, hS1, nl0, upd_same⟩ (fun i σ H3 _ hW => ?_) (fun i x σ H3 hx hW => ?_) (fun σ H3 hW => ?_)⟩
      · obtain ⟨_, _, _, _, _, _, _, sm, _⟩ := hW
        exact sm.seq hN
      · obtain ⟨l, y5, y6, y7, y8, y9, rfl, sm, nl, hl⟩ := hW
        obtain ⟨k, hk, ek⟩ : ∃ k, ks[i]? = some k ∧ x = .int (k : Int) := by
          rw [List.getElem?_map] at hx
          cases e : ks[i]? with
          | none => rw [e] at hx; cases hx
          | some k => rw [e] at hx; cases hx; exact ⟨k, rfl, rfl⟩
        subst ek
        have hkl : k < ts.length := hks k (List.mem_of_getElem? hk)
        obtain ⟨⟨u1, u2⟩, hu⟩ : ∃ u, ts[k]? = some u := ⟨ts[k], List.getElem?_eq_getElem hkl⟩
        obtain ⟨xt, hxt, ta, rfl, hta⟩ := (hT.mono (TupK.same sm)).get hu
        obtain ⟨hu0, hu1, hu2⟩ := ok.tie _ (List.mem_of_getElem? hu)
        have hu0 : 0 ≤ u1 := hu0
        have hu1 : u1 < u2 := hu1
        have hu2 : u2 < n := hu2
        have hLn : (leastOf n (pick ts (ks.take i))).length = n := leastOf_length n _ _ (upto_length n)
        have hstep : leastOf n (pick ts (ks.take (i + 1))) = remark (at0 (leastOf n (pick ts (ks.take i))) u1) (at0 (leastOf n (pick ts (ks.take i))) u2) (leastOf n (pick ts (ks.take i))) := by
          have e2 : ts.getD k (0, 0) = (u1, u2) := by rw [List.getD_eq_getElem?_getD, hu]; rfl
          unfold leastOf pick
          rw [take_succ hk, List.map_append, List.foldl_append]
          simp only [List.map_cons, List.map_nil, List.foldl_cons, List.foldl_nil, e2]
          rfl
        generalize leastOf n (pick ts (ks.take i)) = L at hl hLn hstep
        have a1 : atI (L.map V.int) u1 = some (.int (at0 L u1)) := at_int hu0 (by omega)
        have a2 : atI (L.map V.int) u2 = some (.int (at0 L u2)) := at_int (by omega) (by omega)
        refine ⟨_, rfl, _, rfl, t, xs, k, _, rfl, rfl, SqT.of (sm _ _ ht1), atI_nat hxt, ta, _, rfl, SqT.of hta, rfl, _, _, rfl, _, _, rfl, rfl, ?_⟩
        refine ⟨_, rfl, _, rfl, l, _, _, _, rfl, rfl, SqL.of hl, a1, _, rfl, _, rfl, l, _, _, _, rfl, rfl, SqL.of hl, a2, _, _, rfl, ?_⟩
        refine ⟨_, rfl, _, rfl, l, _, _, _, rfl, rfl, SqL.of hl, a1, _, rfl, _, rfl, l, _, _, _, rfl, rfl, SqL.of hl, a2, _, _, rfl, by show 2 ≤ sizeLine; decide, fun pr npr => ?_⟩
        refine ⟨pr, _, rfl, SqT.of upd_same, rfl, _, _, rfl, _, _, rfl, rfl, ?_⟩
        have sm2 : Same H (upd H3 pr (.tup [.int (lowOf (at0 L u1) (at0 L u2)), .int (highOf (at0 L u1) (at0 L u2))])) := sm.trans (same_new npr)
        have hl2 : (upd H3 pr (.tup [.int (lowOf (at0 L u1) (at0 L u2)), .int (highOf (at0 L u1) (at0 L u2))])) l = some (.lst (L.map V.int)) := same_new npr _ _ hl
        refine ⟨_, rfl, l, rfl, ⟨_, SqL.of hl2⟩, fun D nD => ?_⟩
        have lD : l ≠ D := ne_of_none hl2 nD
        refine lc_list (K := K) (a := l) (xs := L.map V.int) (fun j H4 => H4 = upd (upd H3 pr (.tup [.int (lowOf (at0 L u1) (at0 L u2)), .int (highOf (at0 L u1) (at0 L u2))])) D (.lst (((remark (at0 L u1) (at0 L u2) L).take j).map V.int))) rfl (fun j H4 _ e => ?_) (fun j x H4 hx e => ?_) (fun H4 e => ?_)
        · rw [e]
          exact SqL.of (by rw [upd_ne lD]; exact hl2)
        · subst e
          obtain ⟨m, hm, rfl⟩ : ∃ m, L[j]? = some m ∧ x = .int m := by
            rw [List.getElem?_map] at hx
            cases e : L[j]? with
            | none => rw [e] at hx; cases hx
            | some m => rw [e] at hx; cases hx; exact ⟨m, rfl, rfl⟩
          have hrm : (remark (at0 L u1) (at0 L u2) L)[j]? = some (if m = highOf (at0 L u1) (at0 L u2) then lowOf (at0 L u1) (at0 L u2) else m) := by
            unfold remark
            rw [List.getElem?_map, hm]
            rfl
          have hjl : j < L.length := (List.getElem?_eq_some_iff.mp hm).1
          have fin : ∀ y, y = .int (if m = highOf (at0 L u1) (at0 L u2) then lowOf (at0 L u1) (at0 L u2) else m) → ∃ acc, (upd (upd H3 pr (.tup [.int (lowOf (at0 L u1) (at0 L u2)), .int (highOf (at0 L u1) (at0 L u2))])) D (.lst (((remark (at0 L u1) (at0 L u2) L).take j).map V.int))) D = some (.lst acc) ∧ acc.length < sizeLine ∧
              upd (upd (upd H3 pr (.tup [.int (lowOf (at0 L u1) (at0 L u2)), .int (highOf (at0 L u1) (at0 L u2))])) D (.lst (((remark (at0 L u1) (at0 L u2) L).take j).map V.int))) D (.lst (acc ++ [y])) = upd (upd H3 pr (.tup [.int (lowOf (at0 L u1) (at0 L u2)), .int (highOf (at0 L u1) (at0 L u2))])) D (.lst (((remark (at0 L u1) (at0 L u2) L).take (j + 1)).map V.int)) := fun y ey => by
            refine ⟨_, upd_same, ?_, ?_⟩
            · rw [List.length_map, List.length_take]
              exact small1000 (by have := ok.hi; omega)
            · rw [upd_upd, take_succ hrm, List.map_append, ey]
              rfl
          refine ⟨rfl, _, rfl, _, rfl, rfl, _, rfl, ite2 (fun e => ?_) (fun e => ?_)⟩
          · have e' : m = highOf (at0 L u1) (at0 L u2) := V.int.inj (of_decide_eq_true e)
            exact ⟨_, rfl, fin _ (by rw [if_pos e']; rfl)⟩
          · have e' : ¬ m = highOf (at0 L u1) (at0 L u2) := fun z => e (decide_eq_true (by rw [z]; rfl))
            exact ⟨_, rfl, fin _ (by rw [if_neg e'])⟩
        · subst e
          refine ⟨D, _, _, _, _, _, rfl, sm2.trans (same_new nD), (sm2.free nD), ?_⟩
          rw [upd_same, hstep, List.take_of_length_le (by rw [remark_length, List.length_map]; exact Nat.le_refl _)]
      · obtain ⟨l, y5, y6, y7, y8, y9, rfl, sm, nl, hl⟩ := hW
        rw [List.length_map, List.take_length] at hl
        have hLn : (leastOf n (pick ts ks)).length = n := leastOf_length n _ _ (upto_length n)
        generalize leastOf n (pick ts ks) = L at hl hLn q
        refine ⟨_, rfl, n, rfl, by omega, by have := ok.hi; omega, fun D nD => ?_⟩
        have lD : l ≠ D := ne_of_none hl nD
        have hn9 := ok.hi
        refine lc_range (lo := 0) (n := n) (fun j H4 => Same H3 H4 ∧ RowsAt H H4 D ((((upto n).take j).filter fun m => at0 L m == m).map (rowAt n L))) ⟨same_new nD, [], upd_same, .nil⟩ (fun j H4 hj hP => ?_) (fun H4 hP => ?_)
        · obtain ⟨sm4, ys, hD, hys⟩ := hP
          have hl4 := sm4 _ _ hl
          have hup : (upto n)[j]? = some (j : Int) := by
            unfold upto
            rw [List.getElem?_map, List.getElem?_range hj]
            rfl
          have hylen : ys.length ≤ n := by
            rw [Paired.length hys, List.length_map]
            exact Nat.le_trans (List.length_filter_le _ _) (by rw [List.length_take, upto_length]; omega)
          refine ⟨rfl, _, rfl, _, rfl, l, _, _, _, rfl, rfl, SqL.of hl4, at_int (by omega) (by omega), _, rfl, rfl, _, rfl, ite2 (fun e => ?_) (fun e => ?_)⟩
          · have e' : at0 L (0 + (j : Int)) = 0 + (j : Int) := V.int.inj (of_decide_eq_true e)
            rw [Int.zero_add] at e' ⊢
            refine ⟨_, rfl, n, rfl, by omega, by omega, fun D2 nD2 => ?_⟩
            have DD : D ≠ D2 := ne_of_none hD nD2
            have lD2 : l ≠ D2 := ne_of_none hl4 nD2
            refine lc_range (lo := 0) (n := n) (fun j2 H5 => H5 = upd H4 D2 (.lst ((((upto n).take j2).filter fun p => at0 L p == (j : Int)).map V.int))) rfl (fun j2 H5 hj2 e5 => ?_) (fun H5 e5 => ?_)
            · subst e5
              have hup2 : (upto n)[j2]? = some (j2 : Int) := by
                unfold upto
                rw [List.getElem?_map, List.getElem?_range hj2]
                rfl
              refine ⟨rfl, _, rfl, _, rfl, l, _, _, _, rfl, rfl, SqL.of (by rw [upd_ne lD2]; exact hl4), at_int (by omega) (by omega), _, rfl, rfl, _, rfl, ite2 (fun e2 => ?_) (fun e2 => ?_)⟩
              · have e2' : at0 L (0 + (j2 : Int)) = (j : Int) := V.int.inj (of_decide_eq_true e2)
                rw [Int.zero_add] at e2' ⊢
                refine ⟨_, rfl, _, upd_same, ?_, ?_⟩
                · rw [List.length_map]
                  exact small1000 (Nat.le_trans (List.length_filter_le _ _) (by rw [List.length_take, upto_length]; omega))
                · rw [upd_upd, take_succ hup2, List.filter_append, List.filter_cons_of_pos (by simpa using e2'), List.map_append]
                  rfl
              · have e2' : ¬ at0 L (j2 : Int) = (j : Int) := fun z => e2 (decide_eq_true (by rw [Int.zero_add, z]))
                rw [take_succ hup2, List.filter_append, List.filter_cons_of_neg (by simpa using e2'), List.filter_nil, List.append_nil]
            · subst e5
              have eT : (upto n).take n = upto n := List.take_of_length_le (by rw [upto_length]; exact Nat.le_refl _)
              rw [eT]
              refine ⟨_, (by rw [upd_ne DD]; exact hD), small1000 (by omega), fun b o hb => ?_, ys ++ [.ref D2], upd_same, ?_⟩
              · rw [upd_ne (ne_of_none hb nD), upd_ne (ne_of_none (sm4 _ _ hb) nD2)]
                exact sm4 _ _ hb
              · rw [take_succ hup, List.filter_append, List.filter_cons_of_pos (by simpa using e'), List.map_append]
                refine paired_snoc (Paired.mapP hys fun x row hx => ?_) ⟨D2, rfl, DD.symm, sm.free (sm4.free nD2), ?_⟩
                · obtain ⟨a', e1, ne1, n1, h1⟩ := hx
                  exact ⟨a', e1, ne1, n1, by rw [upd_ne ne1, upd_ne (ne_of_none h1 nD2)]; exact h1⟩
                · rw [upd_ne DD.symm, upd_same]
                  rfl
          · have e' : ¬ at0 L (j : Int) = (j : Int) := fun z => e (decide_eq_true (by rw [Int.zero_add, z]))
            refine ⟨sm4, ys, hD, ?_⟩
            rw [take_succ hup, List.filter_append, List.filter_cons_of_neg (by simpa using e'), List.filter_nil, List.append_nil]
            exact hys
        · obtain ⟨sm4, hR⟩ := hP
          rw [List.take_of_length_le (by rw [upto_length]; exact Nat.le_refl _)] at hR
          exact q D H4 (sm.free nD) (sm.trans sm4) hR
end
end TA
set_option maxHeartbeats 4000000
namespace TA
open PySem PySem.Spec PyProof.Rows L2
abbrev sGrown : Stmt := topS 6
def PairOk (n : Nat) (t : Int × Int) : Prop := 0 ≤ t.1 ∧ t.1 < n ∧ 0 ≤ t.2 ∧ t.2 < n ∧ t.1 ≠ t.2
theorem Pot.ne {H : Hp} {p q : Addr} (h : Pot H p) (n : H q = none) : q ≠ p := fun e => by
  obtain ⟨a, b, e1, _⟩ := h
  rw [e, e1] at n
  cases n
theorem Pot.tup {H H' : Hp} {p : Addr} (h : Pot H p) (f : Fro p H H') : TupK H H' := by
  obtain ⟨a, b, e, _⟩ := h
  exact TupK.fro e f
theorem Pot.keep {H : Hp} {p q : Addr} {u : HO} (h : Pot H p) (n : p ≠ q) : Pot (upd H q u) p := by
  obtain ⟨a, b, e, r⟩ := h
  exact ⟨a, b, by rw [upd_ne n]; exact e, r⟩
theorem Fro.putAt {p q : Addr} {H H' : Hp} {u : HO} (f : Fro p H H') (n : H q = none) : Fro p H (upd H' q u) := fun r o m h => by
  rw [upd_ne (ne_of_none h n)]
  exact f r o m h
theorem Fro.back {p q : Addr} {H H' : Hp} (f : Fro p H H') (hp : q ≠ p) (n : H' q = none) : H q = none := by
  cases e : H q with
  | none => rfl
  | some o =>
    rw [f q o hp e] at n
    cases n
section
variable {P : Program} {w : World} {K : PySem.W.Frag} {mg : Str → Option Value} {b0 : Heap}
abbrev nGrown : List Str := ["_law_pot_here", "_law_places", "_law_place"]
theorem scGrown : FnScope nGrown ["_law_pot_here", "_law_places"] (defScope sGrown) := ⟨rfl, rfl, rfl, by decide +kernel, rfl, by decide +kernel, by decide +kernel⟩
def spGrown : Sp := fun vs H Q _ => ∃ (p : Addr) (n : Nat), vs = [.ref p, .int n] ∧ 1 ≤ n ∧ n ≤ 9 ∧ Pot H p ∧
  ∀ l H' xs ts, H l = none → Fro p H H' → Pot H' p → H' l = some (.lst xs) → TiesAt H' xs ts → (∀ t ∈ ts, PairOk n t) → ts.length ≤ 8 → Q (.ref l) H'
theorem ok_grown {f fT : Addr} {fd fdT : FuncData} {k : Nat} (F : Fun K "_law_grown" "_law_grown" sGrown f fd) (FT : Fun K "_law_take" "_law_take" sTake fT fdT) (bT : Binds K fdT ["_law_pot_here", "_law_many"] [])
    (gT : mg "_law_take" = some (.ref fT)) (md : mg "divmod" = none) (mra : mg "range" = none) : FnOk P w K mg b0 CX0 (k + 2) f fd ["_law_pot_here", "_law_places"] spGrown := by
  have GT : FnOk P w K mg b0 CX0 (k + 1) fT fdT ["_law_pot_here", "_law_many"] spTake := ok_take FT md
  refine F.ok scGrown (fun vs H Q E h => ?_) (fun cdv A outer s H vs Q E hr h => ?_)
  · obtain ⟨p, n, rfl, _⟩ := h
    rfl
  · obtain ⟨p, n, rfl, h1, h9, hP, q⟩ := h
    refine ⟨_, pss_one (ps_ret (pe_lc (own := [("_law_place", 2)]) (g := gName 2) (tt := tYes) rfl scGrown.nd (pi_range2 (by rfl) mra (pa_cons pe_int (pa_cons (pv 1) pa_nil))) (blkOk_by (N := nGrown) (sc := defScope sGrown) (by decide +kernel))
      (fun _ _ _ _ _ => pg_name (i := 2) scGrown.nd rfl (.inl rfl)) (fun _ _ _ _ _ => pts_nil)
      (fun _ _ _ _ _ => pe_tup (pa_cons (pe_call GT hr (by rfl) gT FT.kp bT .nil pass0 (pa_cons (pv 0) (pa_cons (pv 2) pa_nil))) (pa_cons (pv 2) pa_nil))))), ?_⟩
    refine ⟨_, rfl, 1, n, rfl, ⟨by omega, by omega, by omega, by omega⟩, fun D nD => ?_⟩
    have Dp : D ≠ p := hP.ne nD
    refine lc_range (lo := 1) (n := ((n : Int) - 1).toNat) (fun j H4 => Fro p H H4 ∧ Pot H4 p ∧ ∃ xs ts, H4 D = some (.lst xs) ∧ TiesAt H4 xs ts ∧ (∀ t ∈ ts, PairOk n t) ∧ ts.length = j)
      ⟨(Fro.refl p H).putAt nD, hP.keep Dp.symm, [], [], upd_same, .nil, fun _ z => (nomatch z), rfl⟩ (fun j H4 hj hI => ?_) (fun H4 hI => ?_)
    · obtain ⟨f4, p4, xs, ts, hD, hT, ok, len⟩ := hI
      refine ⟨rfl, _, rfl, _, rfl, p, _, rfl, by omega, by omega, p4, fun d H5 d0 d1 f5 p5 => ?_⟩
      have hD5 := f5 _ _ Dp hD
      refine ⟨_, rfl, by show 2 ≤ sizeLine; decide, fun t nt => ?_⟩
      have tD : D ≠ t := ne_of_none hD5 nt
      refine ⟨xs, by rw [upd_ne tD]; exact hD5, small1000 (by rw [Paired.length hT]; omega), ((f4.trans f5).new nt).putAt nD, ?_, xs ++ [.ref t], ts ++ [(d, 1 + (j : Int))], upd_same, ?_, ?_, ?_⟩
      · exact (p5.keep (p5.ne nt).symm).keep Dp.symm
      · have k1 : TupK H4 (upd (upd H5 t (.tup [.int d, .int (1 + (j : Int))])) D (.lst (xs ++ [.ref t]))) :=
          ((p4.tup f5).trans (TupK.new nt)).trans (TupK.lst (ys := xs) (by rw [upd_ne tD]; exact hD5))
        exact paired_snoc (TiesAt.mono k1 hT) ⟨t, rfl, by rw [upd_ne tD.symm, upd_same]⟩
      · intro u hu
        rcases List.mem_append.mp hu with z | z
        · exact ok u z
        · rw [List.mem_singleton.mp z]
          exact ⟨d0, by show d < n; omega, by show 0 ≤ 1 + (j : Int); omega, by show 1 + (j : Int) < n; omega, by show d ≠ 1 + (j : Int); omega⟩
      · rw [List.length_append, len]
        rfl
    · obtain ⟨f4, p4, xs, ts, hD, hT, ok, len⟩ := hI
      exact q D H4 xs ts nD f4 p4 hD hT ok (by omega)
end
end TA
set_option maxHeartbeats 8000000
namespace TA
open PySem PySem.Spec PyProof.Rows L2
abbrev sWeb : Stmt := topS 7
theorem paired_take {α β : Type} {R : α → β → Prop} : ∀ {l : List α} {m : List β} (n : Nat), Paired R l m → Paired R (l.take n) (m.take n)
  | _, _, 0, _ => .nil
  | _, _, _ + 1, .nil => .nil
  | _, _, n + 1, .cons r t => .cons r (paired_take n t)
theorem paired_drop {α β : Type} {R : α → β → Prop} : ∀ {l : List α} {m : List β} (n : Nat), Paired R l m → Paired R (l.drop n) (m.drop n)
  | _, _, 0, r => r
  | _, _, _ + 1, .nil => .nil
  | _, _, n + 1, .cons _ t => paired_drop n t
theorem paired_append {α β : Type} {R : α → β → Prop} : ∀ {l l' : List α} {m m' : List β}, Paired R l m → Paired R l' m' → Paired R (l ++ l') (m ++ m')
  | _, _, _, _, .nil, s => s
  | _, _, _, _, .cons r t, s => .cons r (paired_append t s)
theorem paired_get {α β : Type} {R : α → β → Prop} : ∀ {l : List α} {m : List β} {i : Nat} {x : α}, Paired R l m → l[i]? = some x → ∃ y, m[i]? = some y ∧ R x y
  | _, _, i, x, .nil, e => by simp at e
  | _, _, 0, x, .cons r _, e => by simp at e; subst e; exact ⟨_, rfl, r⟩
  | _, _, i + 1, x, .cons _ t, e => by
    obtain ⟨y, h1, h2⟩ := paired_get (i := i) (x := x) t (by simpa using e)
    exact ⟨y, by simpa using h1, h2⟩
theorem Pot.new {H : Hp} {p q : Addr} {u : HO} (h : Pot H p) (n : H q = none) : Pot (upd H q u) p := h.keep (h.ne n).symm
theorem pick4 {way : Int} (h0 : 0 ≤ way) (h1 : way < 4) (a b c d : Int) : ∃ x, atI [V.int a, .int b, .int c, .int d] way = some (.int x) ∧ ((way = 0 ∧ x = a) ∨ (way = 1 ∧ x = b) ∨ (way = 2 ∧ x = c) ∨ (way = 3 ∧ x = d)) := by
  have h : way = 0 ∨ way = 1 ∨ way = 2 ∨ way = 3 := by omega
  rcases h with rfl | rfl | rfl | rfl
  · exact ⟨a, rfl, .inl ⟨rfl, rfl⟩⟩
  · exact ⟨b, rfl, .inr (.inl ⟨rfl, rfl⟩)⟩
  · exact ⟨c, rfl, .inr (.inr (.inl ⟨rfl, rfl⟩))⟩
  · exact ⟨d, rfl, .inr (.inr (.inr ⟨rfl, rfl⟩))⟩
theorem cut_to (xs : List V) (n : Nat) : cutV xs none (some (n : Int)) = xs.take n := by
  unfold cutV
  rw [HT.sIx_none, HT.sIx_nat, Nat.sub_zero, List.drop_zero]
  rcases Nat.le_total n xs.length with h | h
  · rw [Nat.min_eq_left h]
  · rw [Nat.min_eq_right h, List.take_length, List.take_of_length_le h]
section
variable {P : Program} {w : World} {K : PySem.W.Frag} {mg : Str → Option Value} {b0 : Heap}
abbrev nWeb : List Str := ["_law_pot_here", "_law_way", "_law_places", "_law_pairs", "_law_tree", "_law_k", "_law_a", "_law_pair"]
theorem scWeb : FnScope nWeb ["_law_pot_here"] (defScope sWeb) := ⟨rfl, rfl, rfl, by decide +kernel, rfl, by decide +kernel, by decide +kernel⟩
def spWeb : Sp := fun vs H Q _ => ∃ (p : Addr), vs = [.ref p] ∧ Pot H p ∧
  ∀ v H' n ts, Fro p H H' → Pot H' p → WebAt H' v n ts → WebOk n ts → Q v H'
/-- the pairs so far -/
structure PairsIn (H0 : Hp) (p : Addr) (n : Nat) (most : Nat) (l : Addr) (H : Hp) : Prop where
  fro : Fro p H0 H
  pot : Pot H p
  new : H0 l = none
  at_ : ∃ xs ts, H l = some (.lst xs) ∧ TiesAt H xs ts ∧ (∀ t ∈ ts, PairOk n t) ∧ ts.length ≤ most
theorem PairsIn.ne {H0 : Hp} {p : Addr} {n most : Nat} {l : Addr} {H : Hp} (hp : Pot H0 p) (h : PairsIn H0 p n most l H) : l ≠ p := hp.ne h.new
theorem PairsIn.step {H0 : Hp} {p : Addr} {n most : Nat} {l : Addr} {H H' : Hp} (hp : Pot H0 p) (h : PairsIn H0 p n most l H) (f : Fro p H H') (p' : Pot H' p) : PairsIn H0 p n most l H' := by
  obtain ⟨xs, ts, h1, h2, h3, h4⟩ := h.at_
  exact ⟨h.fro.trans f, p', h.new, xs, ts, f _ _ (h.ne hp) h1, h2.mono (h.pot.tup f), h3, h4⟩
theorem ok_web {f fT fG : Addr} {fd fdT fdG : FuncData} {k : Nat} (F : Fun K "_law_web" "_law_web" sWeb f fd) (FT : Fun K "_law_take" "_law_take" sTake fT fdT) (bT : Binds K fdT ["_law_pot_here", "_law_many"] [])
    (gT : mg "_law_take" = some (.ref fT)) (FG : Fun K "_law_grown" "_law_grown" sGrown fG fdG) (bG : Binds K fdG ["_law_pot_here", "_law_places"] []) (gG : mg "_law_grown" = some (.ref fG))
    (md : mg "divmod" = none) (mra : mg "range" = none) (ml : mg "len" = none) (mint : mg "int" = none) (mtu : mg "tuple" = none) (mmi : mg "min" = none) (mma : mg "max" = none) :
    FnOk P w K mg b0 CX0 (k + 3) f fd ["_law_pot_here"] spWeb := by
  have GT : FnOk P w K mg b0 CX0 1 fT fdT ["_law_pot_here", "_law_many"] spTake := ok_take FT md
  have GG : FnOk P w K mg b0 CX0 2 fG fdG ["_law_pot_here", "_law_places"] spGrown := ok_grown FG FT bT gT md mra
  refine F.ok scWeb (fun vs H Q E h => ?_) (fun cdv A outer s H vs Q E hr h => ?_)
  · obtain ⟨p, rfl, _⟩ := h
    rfl
  · obtain ⟨p, rfl, hP, q⟩ := h
    have h1 := hr.mono (j := 1) (by omega)
    have h2 := hr.mono (j := 2) (by omega)
    refine ⟨_, pss_cons (ps_set (i := 1) scWeb.nd rfl (.inl rfl) (pe_call GT h1 (by rfl) gT FT.kp bT .nil pass0 (pa_cons (pv 0) (pa_cons pe_int pa_nil))))
      (pss_cons (ps_set (i := 2) scWeb.nd rfl (.inl rfl) (pe_op op_add (pe_ix ix_list (pe_lst (pa_cons pe_int (pa_cons pe_int (pa_cons pe_int (pa_cons pe_int pa_nil))))) (pv 1) (fun _ _ => rfl))
        (pe_call GT h1 (by rfl) gT FT.kp bT .nil pass0 (pa_cons (pv 0) (pa_cons (pe_ix ix_list (pe_lst (pa_cons pe_int (pa_cons pe_int (pa_cons pe_int (pa_cons pe_int pa_nil))))) (pv 1) (fun _ _ => rfl)) pa_nil)))))
      (pss_cons (ps_set (i := 3) scWeb.nd rfl (.inl rfl) (pe_lst pa_nil))
      (pss_cons (ps_for PassesOwn.never rfl (pi_range1 (by rfl) mra (pa_cons (pe_ix ix_list (pe_lst (pa_cons pe_int (pa_cons pe_int (pa_cons (pe_op op_add pe_int (pe_call GT h1 (by rfl) gT FT.kp bT .nil pass0 (pa_cons (pv 0) (pa_cons pe_int pa_nil)))) (pa_cons pe_int pa_nil))))) (pv 1) (fun _ _ => rfl)) pa_nil)) (pg_name (i := 4) scWeb.nd rfl (.inl rfl))
        (pss_one (ps_set (i := 3) scWeb.nd rfl (.inl rfl) (pe_op op_cat (pv 3) (pe_call GG h2 (by rfl) gG FG.kp bG .nil pass0 (pa_cons (pv 0) (pa_cons (pv 2) pa_nil)))))))
      (pss_cons (ps_for PassesOwn.never rfl (pi_range1 (by rfl) mra (pa_cons (pe_op op_mul (pe_call GT h1 (by rfl) gT FT.kp bT .nil pass0 (pa_cons (pv 0) (pa_cons (pe_ix ix_list (pe_lst (pa_cons pe_int (pa_cons pe_int (pa_cons pe_int (pa_cons pe_int pa_nil))))) (pv 1) (fun _ _ => rfl)) pa_nil)))
          (pe_callTy call_int1 (by rfl) mint (by decide +kernel) (pa_cons (pe_cmpR op_gt (pv 2) pe_int (nomark _)) pa_nil))) pa_nil)) (pg_name (i := 5) scWeb.nd rfl (.inl rfl))
        (pss_cons (ps_set (i := 6) scWeb.nd rfl (.inl rfl) (pe_call GT h1 (by rfl) gT FT.kp bT .nil pass0 (pa_cons (pv 0) (pa_cons (pv 2) pa_nil))))
        (pss_one (ps_expr (pe_bm PySem.F.plainAttrs_list PySem.F.slot_list_insert PySem.F.type_list_insert mt_insert (pv 3)
          (pa_cons (pe_call GT h1 (by rfl) gT FT.kp bT .nil pass0 (pa_cons (pv 0) (pa_cons (pe_op op_add (pe_callB call_len_seq (by rfl) ml PySem.boot_len (pa_cons (pv 3) pa_nil)) pe_int) pa_nil)))
          (pa_cons (pe_tup (pa_cons (pv 6) (pa_cons (pe_op op_mod (pe_op op_add (pe_op op_add (pv 6) pe_int) (pe_call GT h1 (by rfl) gT FT.kp bT .nil pass0 (pa_cons (pv 0) (pa_cons (pe_op op_sub (pv 2) pe_int) pa_nil)))) (pv 2)) pa_nil))) pa_nil)))))))
      (pss_one (ps_ret (pe_tup (pa_cons (pv 2) (pa_cons (pe_callTy call_tuple_of (by rfl) mtu (by decide +kernel) (pa_cons
        (pe_lc (own := [("_law_pair", 7)]) (g := gName 7) (tt := tYes) rfl scWeb.nd (pi_list (pe_slice sl_list (pv 3) po_none (po_some pe_int))) (blkOk_by (N := nWeb) (sc := defScope sWeb) (by decide +kernel))
          (fun _ _ _ _ _ => pg_name (i := 7) scWeb.nd rfl (.inl rfl)) (fun _ _ _ _ _ => pts_nil)
          (fun _ _ _ _ _ => pe_tup (pa_cons (pe_callB (id := "min") (r := rMinT K) (call_minT rfl hr.units) (by rfl) mmi (by decide +kernel) (pa_cons (pv 7) pa_nil)) (pa_cons (pe_callB (id := "max") (r := rMaxT K) (call_maxT rfl hr.units) (by rfl) mma (by decide +kernel) (pa_cons (pv 7) pa_nil)) pa_nil)))) pa_nil)) pa_nil))))))))), ?_⟩
    -- way
    refine ⟨_, rfl, p, 4, rfl, by decide, by decide, hP, fun way H1 w0 w1 f1 p1 => ?_⟩
    obtain ⟨x1, ax1, hx1⟩ := pick4 w0 w1 1 2 2 1
    obtain ⟨x2, ax2, hx2⟩ := pick4 w0 w1 9 2 8 9
    obtain ⟨x3, ax3, hx3⟩ := pick4 w0 w1 31 31 5 9
    -- places
    refine ⟨by show 4 ≤ sizeLine; decide, fun l1 n1 => ⟨_, rfl, l1, _, way, _, rfl, rfl, SqL.of upd_same, ax1, _, rfl, by show 4 ≤ sizeLine; decide, fun l2 n2 => ⟨_, rfl, l2, _, way, _, rfl, rfl, SqL.of upd_same, ax2, ?_⟩⟩⟩
    refine ⟨p, x2, rfl, by omega, by omega, (p1.new n1).new n2, fun d2 H2 d20 d21 f2 p2 => ⟨_, _, rfl, rfl, ?_⟩⟩
    have f2' : Fro p H H2 := ((f1.new n1).new n2).trans f2
    obtain ⟨n, hn⟩ : ∃ n : Nat, x1 + d2 = n := ⟨(x1 + d2).toNat, by omega⟩
    have hn1 : 1 ≤ n := by omega
    have hn9 : n ≤ 9 := by omega
    dsimp only
    rw [hn]
    clear hn
    -- pairs = []
    refine ⟨Nat.zero_le _, fun l0 nl0 => ?_⟩
    have nl0' : H l0 = none := f2'.back (p2.ne nl0) nl0
    -- the trees
    refine ⟨_, rfl, p, 3, rfl, by decide, by decide, p2.new nl0, fun d3 H3 d30 d31 f3 p3 => ⟨_, _, rfl, rfl, by show 4 ≤ sizeLine; decide, fun l3 n3 => ?_⟩⟩
    obtain ⟨x4, ax4, hx4⟩ := pick4 w0 w1 0 0 (1 + d3) 0
    have I0 : PairsIn H p n 0 l0 (upd H3 l3 (.lst [.int 0, .int 0, .int (1 + d3), .int 0])) := by
      have b1 : PairsIn H p n 0 l0 (upd H2 l0 (.lst [])) := ⟨f2'.new nl0, p2.new nl0, nl0', [], [], upd_same, .nil, fun _ z => (nomatch z), Nat.le_refl _⟩
      exact (b1.step hP f3 p3).step hP ((Fro.refl p H3).new n3) (p3.new n3)
    refine ⟨_, rfl, l3, _, way, _, rfl, rfl, SqL.of upd_same, ax4, x4, rfl, by omega, by omega, for_range (lo := 0) (n := x4.toNat) (fun i σ Hx => ∃ l y4, σ = [some (.ref p), some (.int way), some (.int n), some (.ref l), y4, none, none, none] ∧ PairsIn H p n (8 * i) l Hx)
      ⟨l0, none, rfl, I0⟩ (fun i σ Hx hi hW => ?_) (fun σ Hx hW => ?_)⟩
    · obtain ⟨l, y4, rfl, PI⟩ := hW
      obtain ⟨xs, ts, hl, hT, hok, hlen⟩ := PI.at_
      refine ⟨_, rfl, _, rfl, _, rfl, p, n, rfl, hn1, hn9, PI.pot, fun l' H' xs' ts' nl' f' p' hl' T' ok' len' => ?_⟩
      have hl2 := f' _ _ (PI.ne hP) hl
      have hT2 := hT.mono (PI.pot.tup f')
      refine ⟨l, l', xs, xs', rfl, rfl, hl2, hl', ?_, fun c nc => ?_⟩
      · rw [Paired.length hT, Paired.length T']
        exact Nat.le_of_lt (small1000 (by omega))
      · refine ⟨c, _, rfl, (PI.fro.trans f').new nc, p'.new nc, (PI.fro.trans f').back (p'.ne nc) nc, xs ++ xs', ts ++ ts', upd_same, paired_append (hT2.mono (TupK.new nc)) (T'.mono (TupK.new nc)), fun t ht => ?_, ?_⟩
        · rcases List.mem_append.mp ht with z | z
          · exact hok t z
          · exact ok' t z
        · rw [List.length_append]
          omega
    · -- single ties
      obtain ⟨l, y4, rfl, PI⟩ := hW
      refine ⟨_, rfl, by show 4 ≤ sizeLine; decide, fun l4 n4 => ⟨_, rfl, l4, _, way, _, rfl, rfl, SqL.of upd_same, ax3, ?_⟩⟩
      refine ⟨p, x3, rfl, by omega, by omega, PI.pot.new n4, fun d4 H4 d40 d41 f4 p4 => ?_⟩
      have PI4 := (PI.step hP ((Fro.refl p Hx).new n4) (PI.pot.new n4)).step hP f4 p4
      refine ⟨_, rfl, _, _, rfl, rfl, .inr ⟨_, rfl, _, _, rfl, rfl, .inl ⟨by omega, by omega⟩, ?_⟩⟩
      have hj : ∃ j : Nat, d4 * (if decide ((1 : Int) < n) = true then 1 else 0) = j ∧ j ≤ 30 ∧ (0 < j → 1 < n) := by
        by_cases hh : (1 : Int) < n
        · rw [if_pos (decide_eq_true hh)]
          exact ⟨d4.toNat, by omega, by omega, fun _ => by omega⟩
        · rw [if_neg (by simpa using hh)]
          exact ⟨0, by omega, by omega, fun z => absurd z (by omega)⟩
      obtain ⟨j, ej, j30, jn⟩ := hj
      refine ⟨_, rfl, ?_, ?_, ?_⟩
      · rw [ej]; omega
      · rw [ej]; omega
      rw [ej, Int.toNat_natCast]
      refine for_range (lo := 0) (n := j) (fun i σ Hx => ∃ y4 y5 y6, σ = [some (.ref p), some (.int way), some (.int n), some (.ref l), y4, y5, y6, none] ∧ PairsIn H p n (24 + i) l Hx)
        ⟨_, none, none, rfl, ⟨PI4.fro, PI4.pot, PI4.new, ?_⟩⟩ (fun i σ Hy hi hW => ?_) (fun σ Hy hW => ?_)
      · obtain ⟨xs, ts, a1, a2, a3, a4⟩ := PI4.at_
        exact ⟨xs, ts, a1, a2, a3, by omega⟩
      · obtain ⟨z4, z5, z6, rfl, PY⟩ := hW
        have hn2 : 1 < n := jn (by omega)
        refine ⟨_, rfl, _, rfl, p, n, rfl, by omega, by omega, PY.pot, fun a Ha a0 a1 fa pa => ?_⟩
        have PA := PY.step hP fa pa
        obtain ⟨xs, ts, hl, hT, hok, hlen⟩ := PA.at_
        refine ⟨_, rfl, .inl ⟨rfl, _, SqL.of hl⟩, _, rfl, _, rfl, l, _, rfl, .inl (SqL.of hl), _, _, rfl, rfl, ?_⟩
        have hxl := Paired.length hT
        refine ⟨p, _, rfl, by omega, by omega, pa, fun at_ Hb b0 b1 fb pb => ?_⟩
        refine ⟨_, rfl, _, rfl, _, _, rfl, rfl, _, rfl, _, rfl, _, _, rfl, rfl, ?_⟩
        refine ⟨p, _, rfl, by omega, by omega, pb, fun d Hd d0 d1 fd' pd => ?_⟩
        refine ⟨_, _, rfl, rfl, _, rfl, _, _, rfl, rfl, by show (0 : Int) < n; omega, by show 2 ≤ sizeLine; decide, fun t nt => ?_⟩
        have PD := (PA.step hP fb pb).step hP fd' pd
        have hlD := fd' _ _ (PA.ne hP) (fb _ _ (PA.ne hP) hl)
        have kT : TupK Ha Hd := (pa.tup fb).trans (pb.tup fd')
        have lt_ : l ≠ t := ne_of_none hlD nt
        have hlT : (upd Hd t (.tup [.int a, .int ((a + 1 + d) % n)])) l = some (.lst xs) := by rw [upd_ne lt_]; exact hlD
        refine ⟨l, xs, at_, .ref t, rfl, rfl, hlT, small1000 (by omega), b0, by omega, _, _, _, rfl, ?_⟩
        have kU : TupK Ha (upd (upd Hd t (.tup [.int a, .int ((a + 1 + d) % n)])) l (.lst (xs.take at_.toNat ++ [.ref t] ++ xs.drop at_.toNat))) := (kT.trans (TupK.new nt)).trans (TupK.lst hlT)
        have hTU := hT.mono kU
        have m0 : 0 ≤ (a + 1 + d) % n := Int.emod_nonneg _ (by omega)
        have m1 : (a + 1 + d) % n < n := Int.emod_lt_of_pos _ (by omega)
        have m2 : a ≠ (a + 1 + d) % n := by
          intro e
          by_cases hh : a + 1 + d < n
          · rw [Int.emod_eq_of_lt (by omega) hh] at e
            omega
          · have e2 : (a + 1 + d) % n = a + 1 + d - n := by
              rw [← Int.sub_emod_right, Int.emod_eq_of_lt (by omega) (by omega)]
            omega
        refine ⟨(PD.fro.new nt).putAt PD.new, (pd.new nt).keep (PA.ne hP).symm, PD.new, _, ts.take at_.toNat ++ [(a, (a + 1 + d) % n)] ++ ts.drop at_.toNat, upd_same, ?_, fun u hu => ?_, ?_⟩
        · refine paired_append (paired_snoc (paired_take _ hTU) ⟨t, rfl, ?_⟩) (paired_drop _ hTU)
          rw [upd_ne lt_.symm, upd_same]
        · rcases List.mem_append.mp hu with z | z
          · rcases List.mem_append.mp z with z | z
            · exact hok u (List.mem_of_mem_take z)
            · rw [List.mem_singleton.mp z]
              exact ⟨a0, a1, m0, m1, m2⟩
          · exact hok u (List.mem_of_mem_drop z)
        · rw [List.length_append, List.length_append, List.length_take, List.length_drop]
          show min at_.toNat ts.length + 1 + (ts.length - at_.toNat) ≤ 24 + (i + 1)
          omega
      · obtain ⟨z4, z5, z6, rfl, PY⟩ := hW
        obtain ⟨xs, ts, hl, hT, hok, hlen⟩ := PY.at_
        refine ⟨_, rfl, _, rfl, 30, rfl, l, xs, rfl, SqL.of hl, fun c nc => ?_⟩
        rw [show cutV xs none (some 30) = xs.take 30 from cut_to xs 30]
        refine ⟨c, rfl, ⟨_, SqL.of upd_same⟩, fun D nD => ?_⟩
        have cD : c ≠ D := ne_of_none upd_same nD
        have nDy : Hy D = none := (same_new nc).free nD
        refine lc_list (K := K) (a := c) (xs := xs.take 30) (fun j H5 => Same Hy H5 ∧ H5 c = some (.lst (xs.take 30)) ∧ ∃ ys, H5 D = some (.lst ys) ∧ TiesAt H5 ys (((ts.take 30).take j).map fun t => (min t.1 t.2, max t.1 t.2)))
          ⟨(same_new nc).trans (same_new nD), by rw [upd_ne cD, upd_same], [], upd_same, .nil⟩ (fun j H5 _ h => SqL.of h.2.1) (fun j x H5 hx h => ?_) (fun H5 h => ?_)
        · obtain ⟨s5, c5, ys, hD, hY⟩ := h
          obtain ⟨⟨u1, u2⟩, hu, ta, rfl, hta⟩ := paired_get (paired_take 30 hT) hx
          have hta5 := s5 _ _ hta
          have hjl : j < 30 := by
            have := (List.getElem?_eq_some_iff.mp hu).1
            rw [List.length_take] at this
            omega
          refine ⟨rfl, _, rfl, ta, u1, [u2], rfl, SqT.of hta5, _, rfl, ta, u1, [u2], rfl, SqT.of hta5, by show 2 ≤ sizeLine; decide, fun t nt => ?_⟩
          have tD : D ≠ t := ne_of_none hD nt
          refine ⟨ys, by rw [upd_ne tD]; exact hD, small1000 ?_, fun b o hb => ?_, ?_, ys ++ [.ref t], upd_same, ?_⟩
          · rw [Paired.length hY, List.length_map, List.length_take]
            omega
          · rw [upd_ne (ne_of_none hb nDy)]
            exact same_new nt _ _ (s5 _ _ hb)
          · rw [upd_ne cD]
            exact same_new nt _ _ c5
          · rw [take_succ hu, List.map_append]
            refine paired_snoc (TiesAt.mono ((TupK.new nt).trans (TupK.lst (ys := ys) (by rw [upd_ne tD]; exact hD))) hY) ⟨t, rfl, ?_⟩
            rw [upd_ne tD.symm, upd_same]
            rfl
        · obtain ⟨s5, c5, ys, hD, hY⟩ := h
          refine ⟨D, ys, rfl, .inl ⟨SqL.of hD, fun tt ntt => ?_⟩⟩
          refine ⟨by show 2 ≤ sizeLine; decide, fun r nr => ?_⟩
          have rt : tt ≠ r := ne_of_none upd_same nr
          have f9 : Fro p H (upd (upd H5 tt (.tup ys)) r (.tup [.int n, .ref tt])) := ((PY.fro.trans (Fro.same s5)).new ntt).new nr
          have p5 : Pot H5 p := by
            obtain ⟨a, b, e, z⟩ := PY.pot
            exact ⟨a, b, s5 _ _ e, z⟩
          rw [List.length_take] at hY
          have eT : (ts.take 30).take (min 30 xs.length) = ts.take 30 := by
            refine List.take_of_length_le ?_
            rw [List.length_take, Paired.length hT]
            exact Nat.le_refl _
          rw [eT] at hY
          refine q (.ref r) _ n ((ts.take 30).map fun t => (min t.1 t.2, max t.1 t.2)) f9 ((p5.new ntt).new nr) ⟨r, tt, ys, rfl, upd_same, by rw [upd_ne rt, upd_same], hY.mono ((TupK.new ntt).trans (TupK.new nr))⟩ ⟨hn1, hn9, ?_, fun u hu => ?_⟩
          · rw [List.length_map, List.length_take]
            omega
          · obtain ⟨v, hv, rfl⟩ := List.mem_map.mp hu
            obtain ⟨v0, v1, v2, v3, v4⟩ := hok v (List.mem_of_mem_take hv)
            show 0 ≤ min v.1 v.2 ∧ min v.1 v.2 < max v.1 v.2 ∧ max v.1 v.2 < n
            omega
end
end TA
set_option maxHeartbeats 8000000
namespace TA
open PySem PySem.Spec PyProof.Rows L2
abbrev sPick : Stmt := topS 8
section
variable {P : Program} {w : World} {K : PySem.W.Frag} {mg : Str → Option Value} {b0 : Heap}
abbrev nPick : List Str := ["_law_pot_here", "_law_many", "_law_way", "_law_number"]
theorem scPick : FnScope nPick ["_law_pot_here", "_law_many"] (defScope sPick) := ⟨rfl, rfl, rfl, by decide +kernel, rfl, by decide +kernel, by decide +kernel⟩
def spPick : Sp := fun vs H Q _ => ∃ (p : Addr) (m : Nat), vs = [.ref p, .int m] ∧ m ≤ 30 ∧ Pot H p ∧
  ∀ l H' ks, H l = none → Fro p H H' → Pot H' p → H' l = some (.lst (numV ks)) → (∀ k ∈ ks, k < m) → ks.length ≤ 30 → Q (.ref l) H'
theorem rgV_num (n : Nat) : rgV 0 n = numV (List.range n) := by
  unfold rgV
  have e : ((n : Int) - 0).toNat = n := by omega
  rw [e]
  refine List.map_congr_left fun i _ => ?_
  show V.int (0 + (i : Int)) = V.int (i : Int)
  rw [Int.zero_add]
theorem ok_pick {f fT : Addr} {fd fdT : FuncData} {k : Nat} (F : Fun K "_law_pick" "_law_pick" sPick f fd) (FT : Fun K "_law_take" "_law_take" sTake fT fdT) (bT : Binds K fdT ["_law_pot_here", "_law_many"] [])
    (gT : mg "_law_take" = some (.ref fT)) (md : mg "divmod" = none) (mra : mg "range" = none) (mli : mg "list" = none) : FnOk P w K mg b0 CX0 (k + 2) f fd ["_law_pot_here", "_law_many"] spPick := by
  have GT : FnOk P w K mg b0 CX0 (k + 1) fT fdT ["_law_pot_here", "_law_many"] spTake := ok_take FT md
  refine F.ok scPick (fun vs H Q E h => ?_) (fun cdv A outer s H vs Q E hr h => ?_)
  · obtain ⟨p, n, rfl, _⟩ := h
    rfl
  · obtain ⟨p, m, rfl, hm, hP, q⟩ := h
    refine ⟨_, pss_cons (ps_set (i := 2) scPick.nd rfl (.inr rfl) (pe_call GT hr (by rfl) gT FT.kp bT .nil pass0 (pa_cons (pv 0) (pa_cons pe_int pa_nil))))
      (pss_cons (ps_if (pt_cmpR op_lt (pv 2) pe_int (nomark _)) (pss_one (ps_ret (pe_listRg rfl (by rfl) mli (prg_1 (by rfl) mra (pe_op op_mul (pv 1) (pv 2)))))) pss_nil)
      (pss_one (ps_ret (pe_lc (own := [("_law_number", 3)]) (g := gName 3) rfl scPick.nd (pi_range1 (by rfl) mra (pa_cons (pv 1) pa_nil)) (blkOk_by (N := nPick) (sc := defScope sPick) (by decide +kernel))
        (fun _ _ _ _ _ => pg_name (i := 3) scPick.nd rfl (.inl rfl)) (fun _ _ _ _ _ => pts_one (pt_cmpR op_eq (pe_call GT hr (by rfl) gT FT.kp bT .nil pass0 (pa_cons (pv 0) (pa_cons (pv 2) pa_nil))) pe_int (nomark _)))
        (fun _ _ _ _ _ => pv 3))))), ?_⟩
    refine ⟨_, rfl, p, 6, rfl, by decide, by decide, hP, fun way H1 w0 w1 f1 p1 => ?_⟩
    refine ⟨_, rfl, _, _, rfl, rfl, _, rfl, ite2 (fun e => ?_) (fun e => ?_)⟩
    · have e' := of_decide_eq_true e
      obtain ⟨wn, hwn⟩ : ∃ wn : Nat, way = wn := ⟨way.toNat, by omega⟩
      subst hwn
      have hle : m * wn ≤ 30 := Nat.le_trans (Nat.mul_le_mul_left m (show wn ≤ 1 by omega)) (by omega)
      have hwm : m * wn ≤ m := Nat.le_trans (Nat.mul_le_mul_left m (show wn ≤ 1 by omega)) (by omega)
      refine ⟨_, rfl, _, rfl, _, _, rfl, rfl, .inl ⟨by omega, by omega⟩, ((m * wn : Nat) : Int), by rw [Int.natCast_mul], RgOk.of_le (by omega) (by omega) (by omega) (by omega), fun l nl => ?_⟩
      rw [rgV_num]
      exact q l _ _ (f1.back (p1.ne nl) nl) (f1.new nl) (p1.new nl) upd_same (fun k hk => Nat.lt_of_lt_of_le (List.mem_range.mp hk) hwm) (by rw [List.length_range]; exact hle)
    · have e' : 2 ≤ way := by
        by_cases z : way < 2
        · exact absurd (decide_eq_true z) e
        · omega
      refine ⟨_, rfl, m, rfl, by omega, by omega, fun D nD => ?_⟩
      have Dp : D ≠ p := p1.ne nD
      have nD' : H D = none := f1.back Dp nD
      refine lc_range (lo := 0) (n := m) (fun j H4 => Fro p H H4 ∧ Pot H4 p ∧ ∃ ks, H4 D = some (.lst (numV ks)) ∧ (∀ k ∈ ks, k < m) ∧ ks.length ≤ j)
        ⟨f1.new nD, p1.new nD, [], upd_same, fun _ z => (nomatch z), Nat.le_refl _⟩ (fun j H4 hj hI => ?_) (fun H4 hI => ?_)
      · obtain ⟨f4, p4, ks, hD, hks, hlen⟩ := hI
        refine ⟨rfl, _, rfl, _, rfl, p, way, rfl, by omega, by omega, p4, fun d H5 d0 d1 f5 p5 => ?_⟩
        have hD5 := f5 _ _ Dp hD
        refine ⟨rfl, _, rfl, ite2 (fun _ => ?_) (fun _ => ?_)⟩
        · refine ⟨_, rfl, _, hD5, small1000 (by rw [List.length_map]; omega), (f4.trans f5).putAt nD', p5.keep Dp.symm, ks ++ [j], ?_, fun k hk => ?_, ?_⟩
          · rw [upd_same, Int.zero_add]
            unfold numV
            rw [List.map_append]
            rfl
          · rcases List.mem_append.mp hk with z | z
            · exact hks k z
            · rw [List.mem_singleton.mp z]; exact hj
          · rw [List.length_append]
            show ks.length + 1 ≤ j + 1
            omega
        · exact ⟨f4.trans f5, p5, ks, hD5, hks, by omega⟩
      · obtain ⟨f4, p4, ks, hD, hks, hlen⟩ := hI
        exact q D H4 ks nD' f4 p4 hD hks (by omega)
end
end TA
set_option maxHeartbeats 8000000
namespace TA
open PySem PySem.Spec PyProof.Rows L2
abbrev sLParts : Stmt := topS 9
/-- parts with their addresses -/
abbrev Rows := List (V × List Int)
def RowsIn (H : Hp) (bs : Rows) : Prop := ∀ b ∈ bs, ∃ a, b.1 = .ref a ∧ H a = some (.lst (b.2.map V.int))
theorem RowsIn.mono {H H' : Hp} (s : Same H H') {bs : Rows} (h : RowsIn H bs) : RowsIn H' bs := fun b hb => by
  obtain ⟨a, e, h1⟩ := h b hb
  exact ⟨a, e, s _ _ h1⟩
def RowsIs (H : Hp) (r : Addr) (rows : List (List Int)) : Prop := ∃ xs, H r = some (.lst xs) ∧ Paired (fun x row => ∃ a, x = .ref a ∧ H a = some (.lst (row.map V.int))) xs rows
theorem RowsAt.is {H0 H : Hp} {r : Addr} {rows : List (List Int)} (h : RowsAt H0 H r rows) : RowsIs H r rows := by
  obtain ⟨xs, h1, h2⟩ := h
  exact ⟨xs, h1, Paired.mapP h2 fun _ _ ⟨a, e, _, _, h3⟩ => ⟨a, e, h3⟩⟩
theorem rows_paired {H : Hp} : ∀ {bs : Rows}, RowsIn H bs → Paired (fun x row => ∃ a, x = V.ref a ∧ H a = some (.lst (row.map V.int))) (bs.map (·.1)) (bs.map (·.2))
  | [], _ => .nil
  | b :: bs, h => .cons (h b List.mem_cons_self) (rows_paired fun c hc => h c (List.mem_cons_of_mem _ hc))
theorem inV_ints (a : Int) : ∀ ns : List Int, inV (.int a) (ns.map V.int) = ns.contains a
  | [] => rfl
  | n :: ns => by
    have ih := inV_ints a ns
    unfold inV at ih ⊢
    rw [List.map_cons, List.any_cons, ih, List.contains_cons]
    congr 1
    show eqV (.int n) (.int a) = (a == n)
    simp [eqV, Bool.beq_comm, eq_comm]
theorem flat_ints : ∀ ns : List Int, (ns.map V.int).all flatV = true
  | [] => rfl
  | n :: ns => by
    rw [List.map_cons, List.all_cons, flat_ints ns]
    rfl
/-- .. none of them at D -/
def RowsInX (H : Hp) (D : Addr) (bs : Rows) : Prop := ∀ b ∈ bs, ∃ a, b.1 = .ref a ∧ a ≠ D ∧ H a = some (.lst (b.2.map V.int))
theorem RowsInX.up {H H' : Hp} {D : Addr} {bs : Rows} (s : Fro D H H') (h : RowsInX H D bs) : RowsInX H' D bs := fun b hb => by
  obtain ⟨a, e, n, h1⟩ := h b hb
  exact ⟨a, e, n, s _ _ n h1⟩
theorem RowsInX.rows {H : Hp} {D : Addr} {bs : Rows} (h : RowsInX H D bs) : RowsIn H bs := fun b hb => by
  obtain ⟨a, e, _, h1⟩ := h b hb
  exact ⟨a, e, h1⟩
theorem first_of {α : Type} {p : α → Bool} {l : List α} (h : ∃ b ∈ l, p b = true) : ∃ b0 r, l.filter p = b0 :: r ∧ b0 ∈ l ∧ p b0 = true := by
  obtain ⟨b, hb, e⟩ := h
  have hm : b ∈ l.filter p := List.mem_filter.mpr ⟨hb, e⟩
  cases q : l.filter p with
  | nil => rw [q] at hm; cases hm
  | cons b0 r =>
    have h0 : b0 ∈ l.filter p := by rw [q]; exact List.mem_cons_self
    exact ⟨b0, r, rfl, List.mem_filter.mp h0⟩
theorem map_get {α β : Type} {g : α → β} {l : List α} {i : Nat} {x : β} (h : (l.map g)[i]? = some x) : ∃ b, l[i]? = some b ∧ x = g b := by
  rw [List.getElem?_map] at h
  cases e : l[i]? with
  | none => rw [e] at h; cases h
  | some b => rw [e] at h; cases h; exact ⟨b, rfl, rfl⟩
theorem filter_take {α : Type} {p : α → Bool} {l : List α} {i : Nat} {x : α} (h : l[i]? = some x) : (l.take (i + 1)).filter p = (l.take i).filter p ++ (if p x = true then [x] else []) := by
  rw [take_succ h, List.filter_append]
  congr 1
  by_cases e : p x = true
  · rw [if_pos e, List.filter_cons_of_pos e]; rfl
  · rw [if_neg e, List.filter_cons_of_neg e]; rfl
theorem lay_ints : ∀ ns : List Int, PyData.canLayAll0 (ns.map .int) = true
  | [] => rfl
  | n :: ns => by
    show PyData.canLayAll0 (.int n :: ns.map .int) = true
    rw [PyData.canLayAll0, lay_ints ns]
    rfl
theorem shaped_row (ns : List Int) : SeqAt.shaped (rowD ns) = true := by
  unfold SeqAt.shaped
  have e1 : (rowD ns).canLay0 = true := by simpa only [PyData.canLay0] using lay_ints ns
  have e2 : (rowD ns).depth = 1 := by
    simp only [PyData.depth]
    rw [PySem.W.depth_ints]
  rw [e1, e2]
  rfl
theorem dp_row {K : PySem.W.Frag} {H : Hp} {v : V} {a : Addr} {ns : List Int} (e : v = .ref a) (h : H a = some (.lst (ns.map V.int))) : Dp K H v (rowD ns) := by
  rw [e]
  exact .lst (SqL.of h) (dpAll_ints K H ns)
theorem small_rows {n : Nat} {L : List Int} {Ps : List (List Int)} (R : Rel n L Ps) : Ps.length ≤ n ∧ ∀ B ∈ Ps, B.length ≤ n := by
  have sub : ∀ {l : List Int}, l.Nodup → (∀ x ∈ l, 0 ≤ x ∧ x < n) → l.length ≤ n := fun {l} nd h => by
    have := List.Nodup.length_le_of_subset nd (l₂ := upto n) fun x hx => mem_upto.mpr (h x hx)
    rw [upto_length] at this
    exact this
  refine ⟨?_, fun B hB => sub ((R.inc B hB).imp fun {a b} h => by omega) fun x hx => ⟨(R.mark B hB x hx).1, (R.mark B hB x hx).2.1⟩⟩
  have := sub R.hd fun x hx => by
    obtain ⟨B, hB, rfl⟩ := List.mem_map.mp hx
    have := R.mark B hB _ (head_mem (R.ne B hB))
    exact ⟨this.1, this.2.1⟩
  rw [List.length_map] at this
  exact this
section
variable {P : Program} {w : World} {K : PySem.W.Frag} {mg : Str → Option Value} {b0 : Heap}
abbrev nLParts : List Str := ["_law_web_here", "_law_numbers", "_law_parts_here", "_law_number", "_law_a", "_law_b", "_law_one", "_law_other", "_law_place", "_law_part"]
theorem scLParts : FnScope nLParts ["_law_web_here", "_law_numbers"] (defScope sLParts) := ⟨rfl, rfl, rfl, by decide +kernel, rfl, by decide +kernel, by decide +kernel⟩
def spLParts (K : PySem.W.Frag) : Sp := fun vs H Q _ => ∃ (v : V) (a : Addr) (n : Nat) (ts : List (Int × Int)) (ks : List Nat), vs = [v, .ref a] ∧ WebAt H v n ts ∧ WebOk n ts ∧
  SqL K H a (numV ks) ∧ (∀ k ∈ ks, k < ts.length) ∧ ∀ r H', H r = none → Same H H' → RowsIs H' r (rowsOf n (leastOf n (pick ts ks))) → Q (.ref r) H'
def PvL (H : Hp) (v : V) (a : Addr) (n : Nat) (ts : List (Int × Int)) (ks : List Nat) (i : Nat) (σ : L2.St) (H3 : Hp) : Prop :=
  ∃ (l : Addr) (bs : Rows) (y3 y4 y5 y6 y7 : Option V), σ = [some v, some (.ref a), some (.ref l), y3, y4, y5, y6, y7, none, none] ∧
    Same H H3 ∧ H l = none ∧ H3 l = some (.lst (bs.map (·.1))) ∧ RowsIn H3 bs ∧ Rel n (leastOf n (pick ts (ks.take i))) (bs.map (·.2))
theorem ok_lparts {f : Addr} {fd : FuncData} {k : Nat} (F : Fun K "_law_parts" "_law_parts" sLParts f fd) (mra : mg "range" = none) (mso : mg "sorted" = none) :
    FnOk P w K mg b0 CX0 (k + 1) f fd ["_law_web_here", "_law_numbers"] (spLParts K) := by
  refine F.ok scLParts (fun vs H Q E h => ?_) (fun cdv A outer s H vs Q E hr h => ?_)
  · obtain ⟨v, a, n, ts, ks, rfl, _⟩ := h
    rfl
  · obtain ⟨v, a, n, ts, ks, rfl, hw, ok, hN, hks, q⟩ := h
    obtain ⟨r, t, xs, rfl, hr1, ht1, hT⟩ := hw.at_
    refine ⟨_, pss_cons (ps_setLc (i := 2) (own := [("_law_place", 8)]) (g := gName 8) (tt := tYes) rfl scLParts.nd rfl rfl (sw_true rfl rfl rfl (by decide +kernel)) (pi_range1 (by rfl) mra (pa_cons (pe_ix ix_tup (pv 0) pe_int (fun _ _ => rfl)) pa_nil)) (blkOk_by (N := nLParts) (sc := defScope sLParts) (by decide +kernel))
        (fun _ _ _ _ _ => pg_name (i := 8) scLParts.nd rfl (.inl rfl)) (fun _ _ _ _ _ => pts_nil) (fun _ _ _ _ _ => pe_lst (pa_cons (pv 8) pa_nil)))
      (pss_cons (ps_for PassesOwn.never rfl (pi_list (pv 1)) (pg_name (i := 3) scLParts.nd rfl (.inl rfl))
        (pss_cons (ps_asg (pe_ix ix_tup (pe_ix ix_tup (pv 0) pe_int (fun _ _ => rfl)) (pv 3) (fun _ _ => rfl)) (pg_tup rfl (pgs_cons (pg_name (i := 4) scLParts.nd rfl (.inr rfl)) (pgs_cons (pg_name (i := 5) scLParts.nd rfl (.inr rfl)) pgs_nil))))
        (pss_cons (ps_set (i := 6) scLParts.nd rfl (.inr rfl) (pe_ix ix_list (pe_lc (own := [("_law_part", 9)]) (g := gName 9) rfl scLParts.nd (pi_list (pv 2)) (blkOk_by (N := nLParts) (sc := defScope sLParts) (by decide +kernel))
          (fun _ _ _ _ _ => pg_name (i := 9) scLParts.nd rfl (.inl rfl)) (fun _ _ _ _ _ => pts_one (pt_cmpR (r := rIn K false) op_in_seq (pv 4) (pv 9) (by rfl))) (fun _ _ _ _ _ => pv 9)) pe_int (fun _ _ => rfl)))
        (pss_cons (ps_set (i := 7) scLParts.nd rfl (.inr rfl) (pe_ix ix_list (pe_lc (own := [("_law_part", 9)]) (g := gName 9) rfl scLParts.nd (pi_list (pv 2)) (blkOk_by (N := nLParts) (sc := defScope sLParts) (by decide +kernel))
          (fun _ _ _ _ _ => pg_name (i := 9) scLParts.nd rfl (.inl rfl)) (fun _ _ _ _ _ => pts_one (pt_cmpR (r := rIn K false) op_in_seq (pv 5) (pv 9) (by rfl))) (fun _ _ _ _ _ => pv 9)) pe_int (fun _ _ => rfl)))
        (pss_one (ps_if (pt_cmpR (op_neD hr.units) (pv 6) (pv 7) (nomark _))
          (pss_one (ps_set (i := 2) scLParts.nd rfl (.inl rfl) (pe_op op_cat
            (pe_lc (own := [("_law_part", 9)]) (g := gName 9) rfl scLParts.nd (pi_list (pv 2)) (blkOk_by (N := nLParts) (sc := defScope sLParts) (by decide +kernel))
              (fun _ _ _ _ _ => pg_name (i := 9) scLParts.nd rfl (.inl rfl)) (fun _ _ _ _ _ => pts_one (PW.pt (pw_and (pt_cmpR (r := rNeD K) (op_neD hr.units) (pv 9) (pv 6) (nomark _)) (pw_and1 (pt_cmpR (r := rNeD K) (op_neD hr.units) (pv 9) (pv 7) (nomark _)))))) (fun _ _ _ _ _ => pv 9))
            (pe_lst (pa_cons (pe_callB cr_sorted (by rfl) mso (by decide +kernel) (pa_cons (pe_op op_cat (pv 6) (pv 7)) pa_nil)) pa_nil))))) pss_nil))))))
      (pss_one (ps_ret (pe_callB (cr_sortR hr.units) (by rfl) mso (by decide +kernel) (pa_cons (pv 2) pa_nil))))), ?_⟩
    have hn9 := ok.hi
    -- a part for each place
    refine ⟨_, rfl, r, _, 0, _, rfl, rfl, SqT.of hr1, rfl, n, rfl, by omega, by omega, fun D nD => ?_⟩
    refine lc_range (lo := 0) (n := n) (fun j H4 => Same H H4 ∧ ∃ bs : Rows, H4 D = some (.lst (bs.map (·.1))) ∧ RowsInX H4 D bs ∧ bs.map (·.2) = ((upto n).take j).map fun x => [x])
      ⟨same_new nD, [], upd_same, fun _ z => (nomatch z), rfl⟩ (fun j H4 hj hI => ?_) (fun H4 hI => ?_)
    · obtain ⟨s4, bs, hD, hR, eb⟩ := hI
      have hup : (upto n)[j]? = some (j : Int) := by
        unfold upto
        rw [List.getElem?_map, List.getElem?_range hj]
        rfl
      have hbl : bs.length ≤ n := by
        have := congrArg List.length eb
        rw [List.length_map, List.length_map, List.length_take] at this
        omega
      refine ⟨rfl, _, rfl, by show 1 ≤ sizeLine; decide, fun c nc => ?_⟩
      have cD : D ≠ c := ne_of_none hD nc
      refine ⟨_, by rw [upd_ne cD]; exact hD, small1000 (by rw [List.length_map]; omega), fun b o hb => ?_, bs ++ [(.ref c, [(j : Int)])], ?_, fun b hb => ?_, ?_⟩
      · rw [upd_ne (ne_of_none hb nD)]
        exact same_new nc _ _ (s4 _ _ hb)
      · rw [upd_same, List.map_append]
        rfl
      · rcases List.mem_append.mp hb with z | z
        · obtain ⟨a', e1, n1, h1⟩ := hR b z
          exact ⟨a', e1, n1, by rw [upd_ne n1]; exact same_new nc _ _ h1⟩
        · rw [List.mem_singleton.mp z]
          refine ⟨c, rfl, cD.symm, ?_⟩
          rw [upd_ne cD.symm, upd_same, Int.zero_add]
          rfl
      · rw [List.map_append, take_succ hup, List.map_append, eb]
        rfl
    · obtain ⟨s4, bs, hD, hR, eb⟩ := hI
      rw [List.take_of_length_le (by rw [upto_length]; exact Nat.le_refl _)] at eb
      -- the ties
      refine ⟨_, rfl, a, rfl, ⟨_, s4.seq hN⟩, for_list (xs := numV ks) (PvL H (.ref r) a n ts ks) ⟨D, bs, none, none, none, none, none, rfl, s4, nD, hD, hR.rows, ?_⟩ (fun i σ H3 _ hW => ?_) (fun i x σ H3 hx hW => ?_) (fun σ H3 hW => ?_)⟩
      · rw [eb]
        exact Rel.start n
      · obtain ⟨_, _, _, _, _, _, _, _, sm, _⟩ := hW
        exact sm.seq hN
      · clear hD hR eb s4 bs
        obtain ⟨l, bs, y3, y4, y5, y6, y7, rfl, sm, nl, hl, hR, R⟩ := hW
        obtain ⟨k, hk, rfl⟩ := map_get hx
        have hkl : k < ts.length := hks k (List.mem_of_getElem? hk)
        obtain ⟨⟨u1, u2⟩, hu⟩ : ∃ u, ts[k]? = some u := ⟨ts[k], List.getElem?_eq_getElem hkl⟩
        obtain ⟨xt, hxt, ta, rfl, hta⟩ := (hT.mono (TupK.same sm)).get hu
        obtain ⟨hu0, hu1, hu2⟩ := ok.tie _ (List.mem_of_getElem? hu)
        have hu0 : 0 ≤ u1 := hu0
        have hu1 : u1 < u2 := hu1
        have hu2 : u2 < n := hu2
        have hstep : leastOf n (pick ts (ks.take (i + 1))) = remark (at0 (leastOf n (pick ts (ks.take i))) u1) (at0 (leastOf n (pick ts (ks.take i))) u2) (leastOf n (pick ts (ks.take i))) := by
          have e2 : ts.getD k (0, 0) = (u1, u2) := by rw [List.getD_eq_getElem?_getD, hu]; rfl
          unfold leastOf pick
          rw [take_succ hk, List.map_append, List.foldl_append]
          simp only [List.map_cons, List.map_nil, List.foldl_cons, List.foldl_nil, e2]
          rfl
        generalize leastOf n (pick ts (ks.take i)) = L at R hstep
        obtain ⟨sz1, sz2⟩ := small_rows R
        rw [List.length_map] at sz1
        -- a, b = web[1][number]
        refine ⟨_, rfl, r, _, 1, _, rfl, rfl, SqT.of (sm _ _ hr1), rfl, _, rfl, t, xs, k, _, rfl, rfl, SqT.of (sm _ _ ht1), atI_nat hxt, ta, _, rfl, SqT.of hta, rfl, _, _, rfl, _, _, rfl, rfl, ?_⟩
        -- one
        have filt : ∀ (Hb : Hp) (l : Addr) (D : Addr) (u : Int), Hb l = some (.lst (bs.map (·.1))) → RowsIn Hb bs → Hb D = none → l ≠ D := fun Hb l D u h1 _ h2 => ne_of_none h1 h2
        obtain ⟨bA, rA, eA, mA, pA⟩ : ∃ b0 r, bs.filter (fun b => b.2.contains u1) = b0 :: r ∧ b0 ∈ bs ∧ b0.2.contains u1 = true := first_of (by
          obtain ⟨B, hB, xB⟩ := R.cov u1 hu0 (by omega)
          obtain ⟨b, hb, rfl⟩ := List.mem_map.mp hB
          exact ⟨b, hb, by simpa using xB⟩)
        obtain ⟨bB, rB, eB, mB, pB⟩ : ∃ b0 r, bs.filter (fun b => b.2.contains u2) = b0 :: r ∧ b0 ∈ bs ∧ b0.2.contains u2 = true := first_of (by
          obtain ⟨B, hB, xB⟩ := R.cov u2 (by omega) (by omega)
          obtain ⟨b, hb, rfl⟩ := List.mem_map.mp hB
          exact ⟨b, hb, by simpa using xB⟩)
        refine ⟨_, rfl, l, rfl, ⟨_, SqL.of hl⟩, fun D1 nD1 => lc_list (K := K) (a := l) (xs := bs.map (·.1)) (fun j H5 => H5 = upd H3 D1 (.lst (((bs.take j).filter (fun b => b.2.contains u1)).map (·.1)))) rfl (fun j H5 _ e => ?_) (fun j x H5 hx e => ?_) (fun H5 e => ?_)⟩
        · rw [e]
          exact SqL.of (by rw [upd_ne (ne_of_none hl nD1)]; exact hl)
        · subst e
          obtain ⟨b, hb, rfl⟩ := map_get hx
          obtain ⟨c, ec, hc⟩ := hR b (List.mem_of_getElem? hb)
          refine ⟨rfl, _, rfl, _, rfl, c, b.2.map V.int, ec, .inl (SqL.of (by rw [upd_ne (ne_of_none hc nD1)]; exact hc)), rfl, flat_ints _, ?_⟩
          rw [inV_ints, filter_take hb]
          refine ⟨_, rfl, ite2 (fun e => ?_) (fun e => ?_)⟩
          · have e' : b.2.contains u1 = true := e
            rw [if_pos e']
            refine ⟨_, rfl, _, upd_same, small1000 ?_, ?_⟩
            · rw [List.length_map]
              exact Nat.le_trans (List.length_filter_le _ _) (Nat.le_trans (List.length_take_le' _ _) (by omega))
            · rw [upd_upd, List.map_append]
              rfl
          · have e' : ¬ b.2.contains u1 = true := e
            rw [if_neg e', List.append_nil]
        · subst e
          rw [List.length_map, List.take_length, eA]
          have s1 : Same H3 (upd H3 D1 (.lst ((bA :: rA).map (·.1)))) := same_new nD1
          refine ⟨D1, _, 0, _, rfl, rfl, SqL.of upd_same, atI_nat (j := 0) rfl, ?_⟩
          have hl1 := s1 _ _ hl
          have hR1 := hR.mono s1
          -- other
          generalize upd H3 D1 (.lst ((bA :: rA).map (·.1))) = H4 at s1 hl1 hR1
          refine ⟨_, rfl, l, rfl, ⟨_, SqL.of hl1⟩, fun D2 nD2 => lc_list (K := K) (a := l) (xs := bs.map (·.1)) (fun j H5 => H5 = upd H4 D2 (.lst (((bs.take j).filter (fun b => b.2.contains u2)).map (·.1)))) rfl (fun j H5 _ e => ?_) (fun j x H5 hx e => ?_) (fun H5 e => ?_)⟩
          · rw [e]
            exact SqL.of (by rw [upd_ne (ne_of_none hl1 nD2)]; exact hl1)
          · subst e
            obtain ⟨b, hb, rfl⟩ := map_get hx
            obtain ⟨c, ec, hc⟩ := hR1 b (List.mem_of_getElem? hb)
            refine ⟨rfl, _, rfl, _, rfl, c, b.2.map V.int, ec, .inl (SqL.of (by rw [upd_ne (ne_of_none hc nD2)]; exact hc)), rfl, flat_ints _, ?_⟩
            rw [inV_ints, filter_take hb]
            refine ⟨_, rfl, ite2 (fun e => ?_) (fun e => ?_)⟩
            · have e' : b.2.contains u2 = true := e
              rw [if_pos e']
              refine ⟨_, rfl, _, upd_same, small1000 ?_, ?_⟩
              · rw [List.length_map]
                exact Nat.le_trans (List.length_filter_le _ _) (Nat.le_trans (List.length_take_le' _ _) (by omega))
              · rw [upd_upd, List.map_append]
                rfl
            · have e' : ¬ b.2.contains u2 = true := e
              rw [if_neg e', List.append_nil]
          · subst e
            rw [List.length_map, List.take_length, eB]
            have s2 : Same H4 (upd H4 D2 (.lst ((bB :: rB).map (·.1)))) := same_new nD2
            refine ⟨D2, _, 0, _, rfl, rfl, SqL.of upd_same, atI_nat (j := 0) rfl, ?_⟩
            have hl2 := s2 _ _ hl1
            have hR2 := hR1.mono s2
            have sH := (sm.trans s1).trans s2
            generalize upd H4 D2 (.lst ((bB :: rB).map (·.1))) = H5 at s2 hl2 hR2 sH
            obtain ⟨cA, ecA, hA⟩ := hR2 bA mA
            obtain ⟨cB, ecB, hB⟩ := hR2 bB mB
            have mA2 : bA.2 ∈ bs.map (·.2) := List.mem_map.mpr ⟨bA, mA, rfl⟩
            have mB2 : bB.2 ∈ bs.map (·.2) := List.mem_map.mpr ⟨bB, mB, rfl⟩
            have zA := (R.mark _ mA2 u1 (by simpa using pA)).2.2
            have zB := (R.mark _ mB2 u2 (by simpa using pB)).2.2
            rw [zA, zB] at hstep
            have lA := sz2 _ mA2
            have lB := sz2 _ mB2
            refine ⟨_, rfl, _, rfl, rowD bA.2, rowD bB.2, dp_row ecA hA, dp_row ecB hB, shaped_row _, shaped_row _, _, rfl, ?_⟩
            rw [eqv_row]
            refine ite2 (fun e => ?_) (fun e => ?_)
            · have ne : bA.2 ≠ bB.2 := by simpa using e
              -- the others
              refine ⟨_, rfl, l, rfl, ⟨_, SqL.of hl2⟩, fun D3 nD3 => lc_list (K := K) (a := l) (xs := bs.map (·.1)) (fun j H6 => H6 = upd H5 D3 (.lst (((bs.take j).filter (fun b => (b.2 != bA.2) && (b.2 != bB.2))).map (·.1)))) rfl (fun j H6 _ e => ?_) (fun j x H6 hx e => ?_) (fun H6 e => ?_)⟩
              · rw [e]
                exact SqL.of (by rw [upd_ne (ne_of_none hl2 nD3)]; exact hl2)
              · subst e
                obtain ⟨b, hb, rfl⟩ := map_get hx
                obtain ⟨c, ec, hc⟩ := hR2 b (List.mem_of_getElem? hb)
                have s3 : Same H5 (upd H5 D3 (.lst (((bs.take j).filter (fun b => (b.2 != bA.2) && (b.2 != bB.2))).map (·.1)))) := same_new nD3
                rw [filter_take hb]
                have no : ¬ ((b.2 != bA.2) && (b.2 != bB.2)) = true → (upd H5 D3 (.lst (((bs.take j).filter (fun b => (b.2 != bA.2) && (b.2 != bB.2))).map (·.1)))) =
                    upd H5 D3 (.lst ((((bs.take j).filter (fun b => (b.2 != bA.2) && (b.2 != bB.2))) ++ (if ((b.2 != bA.2) && (b.2 != bB.2)) = true then [b] else [])).map (·.1))) := fun z => by
                  rw [if_neg z, List.append_nil]
                refine ⟨rfl, _, rfl, _, rfl, rowD b.2, rowD bA.2, dp_row ec (s3 _ _ hc), dp_row ecA (s3 _ _ hA), shaped_row _, shaped_row _, _, rfl, ?_⟩
                rw [eqv_row]
                refine ite2 (fun e1 => ?_) (fun e1 => ?_)
                · have n1 : b.2 ≠ bA.2 := by simpa using e1
                  refine ⟨_, rfl, _, rfl, rowD b.2, rowD bB.2, dp_row ec (s3 _ _ hc), dp_row ecB (s3 _ _ hB), shaped_row _, shaped_row _, _, rfl, ?_⟩
                  rw [eqv_row]
                  refine ite2 (fun e2 => ?_) (fun e2 => ?_)
                  · have n2 : b.2 ≠ bB.2 := by simpa using e2
                    refine ⟨_, rfl, _, upd_same, small1000 ?_, ?_⟩
                    · rw [List.length_map]
                      exact Nat.le_trans (List.length_filter_le _ _) (Nat.le_trans (List.length_take_le' _ _) (by omega))
                    · rw [upd_upd, if_pos (by simp [n1, n2]), List.map_append]
                      rfl
                  · have n2 : b.2 = bB.2 := by simpa using e2
                    exact no (by simp [n2])
                · have n1 : b.2 = bA.2 := by simpa using e1
                  exact iteF (no (by simp [n1]))
              · subst e
                rw [List.length_map, List.take_length]
                have s3 : Same H5 (upd H5 D3 (.lst ((bs.filter (fun b => (b.2 != bA.2) && (b.2 != bB.2))).map (·.1)))) := same_new nD3
                have hfl : (bs.filter (fun b => (b.2 != bA.2) && (b.2 != bB.2))).length ≤ 9 := Nat.le_trans (List.length_filter_le _ _) (by omega)
                refine ⟨_, rfl, _, rfl, cA, cB, _, _, ecA, ecB, s3 _ _ hA, s3 _ _ hB, ?_, fun c nc => ?_⟩
                · rw [List.length_map, List.length_map]
                  exact Nat.le_of_lt (small1000 (by omega))
                have s4 := s3.trans (same_new (o := .lst (bA.2.map V.int ++ bB.2.map V.int)) nc)
                have hD3 : (upd (upd H5 D3 (.lst ((bs.filter (fun b => (b.2 != bA.2) && (b.2 != bB.2))).map (·.1)))) c (.lst (bA.2.map V.int ++ bB.2.map V.int))) D3 = some (.lst ((bs.filter (fun b => (b.2 != bA.2) && (b.2 != bB.2))).map (·.1))) := same_new nc _ _ upd_same
                refine ⟨c, bA.2 ++ bB.2, rfl, SqL.of (by rw [upd_same, List.map_append]), by rw [List.length_append]; omega, fun C p pC sC np => ?_⟩
                have s5 := s4.trans (same_new (o := .lst (C.map V.int)) np)
                have hD3' := same_new (o := .lst (C.map V.int)) np _ _ hD3
                refine ⟨by show 1 ≤ sizeLine; decide, fun c3 nc3 => ?_⟩
                have s6 := s5.trans (same_new (o := .lst [V.ref p]) nc3)
                refine ⟨D3, c3, _, _, rfl, rfl, same_new nc3 _ _ hD3', upd_same, ?_, fun c4 nc4 => ?_⟩
                · rw [List.length_map]
                  exact Nat.le_of_lt (small1000 (by show _ + 1 ≤ 1000; omega))
                have s7 := s6.trans (same_new (o := .lst ((bs.filter (fun b => (b.2 != bA.2) && (b.2 != bB.2))).map (·.1) ++ [V.ref p])) nc4)
                refine ⟨c4, bs.filter (fun b => (b.2 != bA.2) && (b.2 != bB.2)) ++ [(.ref p, C)], _, _, _, _, _, rfl, sH.trans s7, (sH.trans s6).free nc4, ?_, fun b hb => ?_, ?_⟩
                · rw [upd_same, List.map_append]
                  rfl
                · rcases List.mem_append.mp hb with z | z
                  · exact hR2.mono s7 b (List.mem_filter.mp z).1
                  · rw [List.mem_singleton.mp z]
                    exact ⟨p, rfl, same_new nc4 _ _ (same_new nc3 _ _ upd_same)⟩
                · rw [hstep]
                  have ej : (bs.filter (fun b => (b.2 != bA.2) && (b.2 != bB.2)) ++ [((.ref p : V), C)]).map (·.2) = joined (bs.map (·.2)) bA.2 bB.2 C := by
                    unfold joined
                    rw [List.map_append, List.filter_map]
                    rfl
                  rw [ej]
                  exact R.step mA2 mB2 ne pC sC
            · have eq_ : bA.2 = bB.2 := by simpa using e
              refine ⟨l, bs, _, _, _, _, _, rfl, sH, nl, hl2, hR2, ?_⟩
              rw [hstep, eq_, remark_same]
              exact R
      · clear hD hR eb s4 bs
        obtain ⟨l, bs, y3, y4, y5, y6, y7, rfl, sm, nl, hl, hR, R⟩ := hW
        rw [List.length_map, List.take_length] at R
        refine ⟨_, rfl, l, bs, rfl, SqL.of hl, fun b hb => ?_, fun p np => ?_⟩
        · obtain ⟨c, ec, hc⟩ := hR b hb
          exact ⟨c, ec, SqL.of hc⟩
        · refine q p _ (sm.free np) (sm.trans (same_new np)) ?_
          have hperm := List.mergeSort_perm bs (rowLe (fun b : V × List Int => b.2))
          have hsrt : (bs.mergeSort (rowLe (fun b : V × List Int => b.2))).Pairwise fun p q => rowLe (fun b : V × List Int => b.2) p q = true :=
            List.pairwise_mergeSort (fun a b c h1 h2 => by
              have h1 : a.2 ≤ b.2 := of_decide_eq_true h1
              have h2 : b.2 ≤ c.2 := of_decide_eq_true h2
              exact decide_eq_true (List.le_trans h1 h2)) (fun a b => by
              rcases List.le_total a.2 b.2 with h | h
              · simp [rowLe, h]
              · simp [rowLe, h]) bs
          have er : (bs.mergeSort (rowLe (fun b : V × List Int => b.2))).map (·.2) = rowsOf n (leastOf n (pick ts ks)) :=
            R.rows (hperm.map _) (List.pairwise_map.mpr (hsrt.imp fun {a b} h => of_decide_eq_true h))
          rw [← er]
          refine ⟨_, upd_same, ?_⟩
          exact rows_paired (fun b hb => (hR.mono (same_new np)) b (hperm.mem_iff.mp hb))
end
end TA
set_option maxHeartbeats 8000000
namespace TA
open PySem PySem.Spec PyProof.Rows L2
abbrev sRight : Stmt := topS 10
abbrev sLaw : Stmt := topS 11
abbrev numI (ks : List Nat) : List Int := ks.map fun (k : Nat) => (k : Int)
theorem numV_eq (ks : List Nat) : numV ks = (numI ks).map V.int := by rw [List.map_map]; rfl
abbrev rowsD (rows : List (List Int)) : PyData := .list (rows.map rowD)
theorem dp_rows {K : PySem.W.Frag} {H : Hp} : ∀ {xs : List V} {rows : List (List Int)}, Paired (fun x row => ∃ a, x = .ref a ∧ H a = some (.lst (row.map V.int))) xs rows → DpAll K H xs (rows.map rowD)
  | _, _, .nil => .nil
  | _, _, .cons ⟨a, e, h⟩ t => .cons (dp_row e h) (dp_rows t)
theorem RowsIs.dp {K : PySem.W.Frag} {H : Hp} {r : Addr} {rows : List (List Int)} (h : RowsIs H r rows) : Dp K H (.ref r) (rowsD rows) := by
  obtain ⟨xs, h1, h2⟩ := h
  exact .lst (SqL.of h1) (dp_rows h2)
theorem rows_show {n : Nat} (L : List Int) (hn : n ≤ 9) : Shows (rowsD (rowsOf n L)) := by
  obtain ⟨h1, h2⟩ := rowsOf_small n L
  have f := fit_list (fit_map (g := rowD) (w := 60) (dp := 1) (l := rowsOf n L) fun B hB => by
    obtain ⟨b1, b2⟩ := h2 B hB
    refine (fit_list (fit_map (g := PyData.int) (w := 5) (dp := 0) fun x hx => fit_int (by decide) (by decide) ?_)).up ?_ (Nat.le_refl _)
    · have := b2 x hx
      show x.natAbs < 32
      omega
    · omega)
  exact f.shows rfl (by omega) (by decide)
section
variable {P : Program} {w : World} {K : PySem.W.Frag} {mg : Str → Option Value} {b0 : Heap}
abbrev nRight : List Str := ["_law_web_here", "_law_numbers", "_law_due", "_law_handed", "_law_told"]
theorem scRight : FnScope nRight ["_law_web_here", "_law_numbers"] (defScope sRight) := ⟨rfl, rfl, rfl, by decide +kernel, rfl, by decide +kernel, by decide +kernel⟩
def spRight : Sp := fun vs H Q _ => ∃ (v : V) (a : Addr) (n : Nat) (ts : List (Int × Int)) (ks : List Nat), vs = [v, .ref a] ∧ WebAt H v n ts ∧ WebOk n ts ∧
  H a = some (.lst (numV ks)) ∧ (∀ k ∈ ks, k < ts.length) ∧ ks.length ≤ 30 ∧ ∀ H', Same H H' → Q (.bl true) H'
theorem ok_right {f fL fP : Addr} {fd fdL fdP : FuncData} (F : Fun K "_law_right" "_law_right" sRight f fd) (FL : Fun K "_law_parts" "_law_parts" sLParts fL fdL) (bL : Binds K fdL ["_law_web_here", "_law_numbers"] []) (gL : mg "_law_parts" = some (.ref fL))
    (FP : Fun K "parts_by" "parts_by" sParts fP fdP) (bP : Binds K fdP ["web", "numbers"] []) (gP : mg "parts_by" = some (.ref fP))
    (mra : mg "range" = none) (mso : mg "sorted" = none) (mli : mg "list" = none) (mmi : mg "min" = none) (mma : mg "max" = none) (mre : mg "repr" = none) (mtu : mg "tuple" = none) :
    FnG P w K mg b0 CX0 2 f fd ["_law_web_here", "_law_numbers"] spRight := by
  have GL : FnOk P w K mg b0 CX0 1 fL fdL ["_law_web_here", "_law_numbers"] (spLParts K) := ok_lparts FL mra mso
  have GP : FnOk P w K mg b0 CX0 1 fP fdP ["web", "numbers"] (spParts K) := ok_parts FP mli mra mmi mma
  refine FunG.ok F scRight (fun vs H Q E h => ?_) (fun cdv A outer s H vs Q E hg hr h => ?_)
  · obtain ⟨v, a, n, ts, ks, rfl, _⟩ := h
    rfl
  · obtain ⟨v, a, n, ts, ks, rfl, hw, ok, ha, hks, hkl, q⟩ := h
    refine ⟨_, pss_cons (ps_set (i := 2) scRight.nd rfl (.inl rfl) (pe_callB (call_reprD hg hr.units) (by rfl) mre (by decide +kernel) (pa_cons (pe_call GL hr (by rfl) gL FL.kp bL .nil pass0 (pa_cons (pv 0) (pa_cons (pv 1) pa_nil))) pa_nil)))
      (pss_cons (ps_set (i := 3) scRight.nd rfl (.inl rfl) (pe_callTy call_list_of (by rfl) mli (by decide +kernel) (pa_cons (pv 1) pa_nil)))
      (pss_cons (ps_set (i := 4) scRight.nd rfl (.inl rfl) (pe_call GP hr (by rfl) gP FP.kp bP .nil pass0 (pa_cons (pv 0) (pa_cons (pv 3) pa_nil))))
      (pss_cons (ps_if (PW.pt (pw_or (pt_cmpR op_ne (pe_callB (call_reprD hg hr.units) (by rfl) mre (by decide +kernel) (pa_cons (pv 4) pa_nil)) (pv 2) (nomark _)) (pw_or1 (pt_cmpR (op_neD hr.units) (pv 3) (pv 1) (nomark _))))) (pss_one (ps_ret pe_bl)) pss_nil)
      (pss_cons (ps_expr (pe_bm PySem.F.plainAttrs_list PySem.F.slot_list_append PySem.F.type_list_append mt_append (pv 3) (pa_cons (pe_un un_neg pe_int) pa_nil)))
      (pss_cons (ps_expr (pe_bm PySem.F.plainAttrs_list PySem.F.slot_list_append PySem.F.type_list_append mt_append (pe_ix ix_list (pv 4) pe_int (fun _ _ => rfl)) (pa_cons (pe_ix ix_tup (pv 0) pe_int (fun _ _ => rfl)) pa_nil)))
      (pss_cons (ps_expr (pe_bm PySem.F.plainAttrs_list PySem.F.slot_list_append PySem.F.type_list_append mt_append (pv 4) (pa_cons (pe_lst pa_nil) pa_nil)))
      (pss_one (ps_ret (pe_cmpR op_eq (pe_callB (call_reprD hg hr.units) (by rfl) mre (by decide +kernel) (pa_cons (pe_call GP hr (by rfl) gP FP.kp bP .nil pass0 (pa_cons (pv 0) (pa_cons (pe_callTy call_tuple_of (by rfl) mtu (by decide +kernel) (pa_cons (pv 1) pa_nil)) pa_nil))) pa_nil)) (pv 2) (nomark _)))))))))), ?_⟩
    have shw := rows_show (leastOf n (pick ts ks)) ok.hi
    obtain ⟨Ps, R⟩ := Rel.ex_from (pick ts ks) (Rel.start n) fun t ht => by
      obtain ⟨k, hk, rfl⟩ := List.mem_map.mp ht
      have hl := hks k hk
      have e : ts.getD k (0, 0) = ts[k] := by rw [List.getD_eq_getElem?_getD, List.getElem?_eq_getElem hl]; rfl
      rw [e]
      obtain ⟨z0, z1, z2⟩ := ok.tie _ (List.getElem_mem hl)
      exact ⟨z0, by omega, by omega, z2⟩
    have hne : rowsOf n (leastOf n (pick ts ks)) ≠ [] := Rel.rows_ne R ok.lo
    -- due
    refine ⟨_, rfl, _, rfl, v, a, n, ts, ks, rfl, hw, ok, SqL.of ha, hks, fun r1 H1 nr1 s1 hr1 => ⟨_, _, rfl, hr1.dp, shw, ?_⟩⟩
    -- handed
    have ha1 := s1 _ _ ha
    refine ⟨_, rfl, a, _, rfl, .inl (SqL.of ha1), fun h nh => ?_⟩
    have s2 := s1.trans (same_new (o := .lst (numV ks)) nh)
    -- told
    refine ⟨_, rfl, _, rfl, v, h, n, ts, ks, rfl, hw.mono (TupK.same s2), ok, .inl (SqL.of upd_same), hks, fun r H3 nr s3 hR => ?_⟩
    have sH3 := s2.trans s3
    have ha3 := sH3 _ _ ha
    have hh3 := s3 _ _ upd_same
    refine ⟨_, rfl, _, _, rfl, hR.is.dp, shw, _, rfl, rfl, _, rfl, ?_⟩
    rw [decide_eq_true rfl]
    refine iteF ?_
    refine ⟨_, rfl, _, rfl, rowD (numI ks), rowD (numI ks), dp_row rfl (by rw [← numV_eq]; exact hh3), dp_row rfl (by rw [← numV_eq]; exact ha3), shaped_row _, shaped_row _, _, rfl, ?_⟩
    rw [eqv_row, decide_eq_true rfl]
    refine iteF ?_
    -- handed.append(-1)
    refine ⟨_, rfl, .inl ⟨rfl, _, SqL.of hh3⟩, 1, rfl, h, _, _, rfl, rfl, hh3, small1000 (by rw [List.length_map]; omega), ?_⟩
    obtain ⟨xs, hr, hP⟩ := hR
    have hrh : r ≠ h := fun e => by rw [e, upd_same] at nr; cases nr
    have hah : a ≠ h := ne_of_none ha1 nh
    obtain ⟨row, rest, erow⟩ : ∃ row rest, rowsOf n (leastOf n (pick ts ks)) = row :: rest := by
      cases e : rowsOf n (leastOf n (pick ts ks)) with
      | nil => exact absurd e hne
      | cons x y => exact ⟨x, y, rfl⟩
    have hlen : xs.length ≤ 9 := by
      rw [Paired.length hP]
      exact Nat.le_trans (rowsOf_small n _).1 ok.hi
    have hrl : row.length ≤ 9 := by
      have := ((rowsOf_small n (leastOf n (pick ts ks))).2 row (by rw [erow]; exact List.mem_cons_self)).1
      exact Nat.le_trans this ok.hi
    rw [erow] at hP
    obtain ⟨x0, xr, rfl, a0, rfl, na0, fa0, ha0⟩ : ∃ x0 xr, xs = x0 :: xr ∧ ∃ a0, x0 = .ref a0 ∧ a0 ≠ r ∧ (upd H1 h (.lst (numV ks))) a0 = none ∧ H3 a0 = some (.lst (row.map V.int)) := by
      cases hP with
      | cons h1 h2 => exact ⟨_, _, rfl, h1⟩
    have a0h : a0 ≠ h := fun e => by rw [e, upd_same] at fa0; cases fa0
    have a0a : a ≠ a0 := ne_of_none (s2 _ _ ha) fa0
    have ra : a ≠ r := ne_of_none (s2 _ _ ha) nr
    obtain ⟨wr, wt, wxs, rfl, hw1, hw2, hw3⟩ := hw.at_
    have nw0 := ne_of_none (s2 _ _ hw1) fa0
    have nwr := ne_of_none (s2 _ _ hw1) nr
    have nwh : wr ≠ h := ne_of_none (s1 _ _ hw1) nh
    -- told[0].append(web[0])
    refine ⟨_, rfl, r, _, 0, .ref a0, rfl, rfl, SqL.of (by rw [upd_ne hrh]; exact hr), atI_nat (j := 0) rfl, .inl ⟨rfl, _, SqL.of (by rw [upd_ne a0h]; exact ha0)⟩, _, rfl, wr, _, 0, _, rfl, rfl, SqT.of (by rw [upd_ne nwh]; exact sH3 _ _ hw1), rfl,
      a0, _, _, rfl, rfl, (by rw [upd_ne a0h]; exact ha0), small1000 (by rw [List.length_map]; omega), ?_⟩
    -- told.append([])
    refine ⟨_, rfl, .inl ⟨rfl, _, SqL.of (by rw [upd_ne na0.symm, upd_ne hrh]; exact hr)⟩, Nat.zero_le _, fun e ne => ?_⟩
    have hre : r ≠ e := ne_of_none (show (upd (upd H3 h _) a0 _) r = some _ by rw [upd_ne na0.symm, upd_ne hrh]; exact hr) ne
    refine ⟨r, _, _, rfl, rfl, (by rw [upd_ne hre, upd_ne na0.symm, upd_ne hrh]; exact hr), small1000 (by rw [List.length_cons] at hlen ⊢; omega), ?_⟩
    -- what was there is there
    have keep : ∀ {o1 o2 o3 o4 : HO}, (upd (upd H3 h o1) a0 o2) e = none → Same H (upd (upd (upd (upd H3 h o1) a0 o2) e o3) r o4) := fun {o1 o2 o3 o4} ne b o hb => by
      have b1 := sH3 _ _ hb
      rw [upd_ne (ne_of_none (s2 _ _ hb) nr)]
      have b2 : (upd (upd H3 h o1) a0 o2) b = some o := by
        rw [upd_ne (ne_of_none (s2 _ _ hb) fa0), upd_ne (ne_of_none (s1 _ _ hb) nh)]
        exact b1
      rw [upd_ne (ne_of_none b2 ne)]
      exact b2
    have sH4 := keep (o3 := .lst []) (o4 := .lst (V.ref a0 :: xr ++ [V.ref e])) ne
    have ha4 := sH4 _ _ ha
    have hw4 := hw.mono (TupK.same sH4)
    refine ⟨_, rfl, _, rfl, a, _, rfl, .inl ⟨SqL.of ha4, fun tu ntu => ?_⟩⟩
    refine ⟨.ref wr, tu, n, ts, ks, rfl, hw4.mono (TupK.new ntu), ok, .inr (SqT.of upd_same), hks, fun r5 H5 nr5 s5 hR5 => ?_⟩
    refine ⟨_, _, rfl, hR5.is.dp, shw, _, rfl, rfl, ?_⟩
    rw [decide_eq_true rfl]
    exact q _ ((sH4.trans (same_new ntu)).trans s5)
end
end TA
set_option maxHeartbeats 8000000
namespace TA
open PySem PySem.Spec PyProof.Rows L2
theorem same_fro {H H1 H2 : Hp} {p : Addr} (s : Same H H1) (n : H p = none) (f : Fro p H1 H2) : Same H H2 := fun b o h => f b o (ne_of_none h n) (s b o h)
section
variable {P : Program} {w : World} {K : PySem.W.Frag} {mg : Str → Option Value} {b0 : Heap}
abbrev nLaw : List Str := ["_law_script", "_law_elder", "_law_k", "_law_pot_here", "_law_web_here", "_law_one", "_law_other", "_law_numbers"]
theorem scLaw : FnScope nLaw ["_law_script"] (defScope sLaw) := ⟨rfl, rfl, rfl, by decide +kernel, rfl, by decide +kernel, by decide +kernel⟩
def spLaw (K : PySem.W.Frag) : Sp := fun vs H Q _ => ∃ (a : Addr) (ns : List Int), vs = [.ref a] ∧ SqL K H a (ns.map V.int) ∧ ns.length ≤ 63 ∧ ∀ H', Q (.bl true) H'
structure NumsAt (H : Hp) (b : Addr) (m : Nat) (ks : List Nat) : Prop where
  at_ : H b = some (.lst (numV ks))
  lt : ∀ k ∈ ks, k < m
  few : ks.length ≤ 30
def Elder (H : Hp) (e : Addr) : Prop := ∃ v b n ts ks, H e = some (.tup [v, .ref b]) ∧ WebAt H v n ts ∧ WebOk n ts ∧ NumsAt H b ts.length ks
theorem ok_law {f fN fO fT fG fW fC fL fP fR : Addr} {fd fdN fdO fdT fdG fdW fdC fdL fdP fdR : FuncData} (F : Fun K "law" "law" sLaw f fd)
    (FN : Fun K "_law_nth" "_law_nth" sNth fN fdN) (bN : Binds K fdN ["_law_script", "_law_k"] []) (gN : mg "_law_nth" = some (.ref fN))
    (FO : Fun K "_law_pot" "_law_pot" sPot fO fdO) (bO : Binds K fdO ["_law_script", "_law_k"] []) (gO : mg "_law_pot" = some (.ref fO))
    (FT : Fun K "_law_take" "_law_take" sTake fT fdT) (bT : Binds K fdT ["_law_pot_here", "_law_many"] []) (gT : mg "_law_take" = some (.ref fT))
    (FG : Fun K "_law_grown" "_law_grown" sGrown fG fdG) (bG : Binds K fdG ["_law_pot_here", "_law_places"] []) (gG : mg "_law_grown" = some (.ref fG))
    (FW : Fun K "_law_web" "_law_web" sWeb fW fdW) (bW : Binds K fdW ["_law_pot_here"] []) (gW : mg "_law_web" = some (.ref fW))
    (FC : Fun K "_law_pick" "_law_pick" sPick fC fdC) (bC : Binds K fdC ["_law_pot_here", "_law_many"] []) (gC : mg "_law_pick" = some (.ref fC))
    (FL : Fun K "_law_parts" "_law_parts" sLParts fL fdL) (bL : Binds K fdL ["_law_web_here", "_law_numbers"] []) (gL : mg "_law_parts" = some (.ref fL))
    (FP : Fun K "parts_by" "parts_by" sParts fP fdP) (bP : Binds K fdP ["web", "numbers"] []) (gP : mg "parts_by" = some (.ref fP))
    (FR : Fun K "_law_right" "_law_right" sRight fR fdR) (bR : Binds K fdR ["_law_web_here", "_law_numbers"] []) (gR : mg "_law_right" = some (.ref fR))
    (mra : mg "range" = none) (mso : mg "sorted" = none) (mli : mg "list" = none) (mmi : mg "min" = none) (mma : mg "max" = none) (mre : mg "repr" = none) (mtu : mg "tuple" = none)
    (ml : mg "len" = none) (mab : mg "abs" = none) (md : mg "divmod" = none) (mint : mg "int" = none) (mal : mg "all" = none) :
    FnG P w K mg b0 CX0 4 f fd ["_law_script"] (spLaw K) := by
  have GO : FnOk P w K mg b0 CX0 2 fO fdO ["_law_script", "_law_k"] (spPot K) := ok_pot FO FN bN gN ml mma mab
  have GW : FnOk P w K mg b0 CX0 3 fW fdW ["_law_pot_here"] spWeb := ok_web FW FT bT gT FG bG gG md mra ml mint mtu mmi mma
  have GC : FnOk P w K mg b0 CX0 2 fC fdC ["_law_pot_here", "_law_many"] spPick := ok_pick FC FT bT gT md mra mli
  have GR : FnG P w K mg b0 CX0 2 fR fdR ["_law_web_here", "_law_numbers"] spRight := ok_right FR FL bL gL FP bP gP mra mso mli mmi mma mre mtu
  refine FunG.ok F scLaw (fun vs H Q E h => ?_) (fun cdv A outer s H vs Q E hg hr h => ?_)
  · obtain ⟨a, ns, rfl, _⟩ := h
    rfl
  · obtain ⟨a, ns, rfl, hS, hlen, q⟩ := h
    have h2 := hr.mono (j := 2) (by omega)
    refine ⟨_, pss_cons (ps_set (i := 1) scLaw.nd rfl (.inl rfl) (pe_tup (pa_cons (pe_tup (pa_cons pe_int (pa_cons (pe_tup pa_nil) pa_nil))) (pa_cons (pe_lst pa_nil) pa_nil))))
      (pss_cons (ps_for PassesOwn.never rfl (pi_range1 (by rfl) mra (pa_cons (pe_callB (call_max2 rfl) (by rfl) mma (by decide +kernel) (pa_cons pe_int (pa_cons (pe_callB (call_min2 rfl) (by rfl) mmi (by decide +kernel) (pa_cons pe_int (pa_cons (pe_callB call_len_seq (by rfl) ml PySem.boot_len (pa_cons (pv 0) pa_nil)) pa_nil))) pa_nil))) pa_nil)) (pg_name (i := 2) scLaw.nd rfl (.inl rfl))
        (pss_cons (ps_set (i := 3) scLaw.nd rfl (.inl rfl) (pe_call GO h2 (by rfl) gO FO.kp bO .nil pass0 (pa_cons (pv 0) (pa_cons (pv 2) pa_nil))))
        (pss_cons (ps_set (i := 4) scLaw.nd rfl (.inr rfl) (pe_call GW hr (by rfl) gW FW.kp bW .nil pass0 (pa_cons (pv 3) pa_nil)))
        (pss_cons (ps_par (i := 5) (j := 6) rfl scLaw.nd rfl rfl (by decide) rfl rfl
          (pa_cons (pe_call GC h2 (by rfl) gC FC.kp bC .nil pass0 (pa_cons (pv 3) (pa_cons (pe_callB call_len_seq (by rfl) ml PySem.boot_len (pa_cons (pe_ix ix_tup (pv 4) pe_int (fun _ _ => rfl)) pa_nil)) pa_nil)))
            (pa_cons (pe_call GC h2 (by rfl) gC FC.kp bC .nil pass0 (pa_cons (pv 3) (pa_cons (pe_callB call_len_seq (by rfl) ml PySem.boot_len (pa_cons (pe_ix ix_tup (pv 4) pe_int (fun _ _ => rfl)) pa_nil)) pa_nil))) pa_nil)) (by rfl))
        (pss_cons (ps_if (PW.pt (pw_or (pt_not (pt_val (pe_callB (cr_all rfl) (by rfl) mal (by decide +kernel) (pa_cons
            (pe_lc (own := [("_law_numbers", 7)]) (g := gName 7) (tt := tYes) rfl scLaw.nd (pi_list (pe_lst (pa_cons (pv 5) (pa_cons (pv 6) (pa_cons (pv 5) pa_nil))))) (blkOk_by (N := nLaw) (sc := defScope sLaw) (by decide +kernel))
              (fun _ _ _ _ _ => pg_name (i := 7) scLaw.nd rfl (.inl rfl)) (fun _ _ _ _ _ => pts_nil)
              (fun _ _ _ _ _ => pe_callG GR hg h2 (by rfl) gR FR.kp bR .nil pass0 (pa_cons (pv 4) (pa_cons (pv 7) pa_nil)))) pa_nil))))
            (pw_or1 (pt_not (pt_val (pe_callG GR hg h2 (by rfl) gR FR.kp bR .nil pass0 (pa_cons (pe_ix ix_tup (pv 1) pe_int (fun _ _ => rfl)) (pa_cons (pe_ix ix_tup (pv 1) pe_int (fun _ _ => rfl)) pa_nil)))))))) (pss_one (ps_ret pe_bl)) pss_nil)
        (pss_one (ps_set (i := 1) scLaw.nd rfl (.inl rfl) (pe_tup (pa_cons (pv 4) (pa_cons (pv 6) pa_nil))))))))))
      (pss_one (ps_ret pe_bl))), ?_⟩
    -- elder
    refine ⟨Nat.zero_le _, fun t1 n1 => ⟨by show 2 ≤ sizeLine; decide, fun t2 n2 => ⟨Nat.zero_le _, fun l1 n3 => ⟨by show 2 ≤ sizeLine; decide, fun e0 n4 => ?_⟩⟩⟩⟩
    have s0 := (((Same.refl H).trans (same_new (o := .tup []) n1)).trans (same_new (o := .tup [.int 1, .ref t1]) n2)).trans (same_new (o := .lst []) n3)
    have s1 := s0.trans (same_new (o := .tup [.ref t2, .ref l1]) n4)
    have E0' : Elder (upd (upd (upd (upd H t1 (.tup [])) t2 (.tup [.int 1, .ref t1])) l1 (.lst [])) e0 (.tup [.ref t2, .ref l1])) e0 := by
      refine ⟨.ref t2, l1, 1, [], [], upd_same, ⟨t2, t1, [], rfl, ?_, ?_, .nil⟩, ⟨Nat.le_refl _, by decide, Nat.zero_le _, fun _ z => (nomatch z)⟩, ⟨?_, fun _ z => (nomatch z), Nat.zero_le _⟩⟩
      · exact same_new n4 _ _ (same_new n3 _ _ upd_same)
      · exact same_new n4 _ _ (same_new n3 _ _ (same_new n2 _ _ upd_same))
      · exact same_new n4 _ _ upd_same
    refine ⟨_, rfl, a, _, rfl, .inl (s1.seq hS), _, _, rfl, _, _, rfl, _, rfl, ?_, ?_, ?_⟩
    · rw [List.length_map]
      split <;> split <;> omega
    · rw [List.length_map]
      split <;> split <;> omega
    rw [List.length_map]
    refine for_range (lo := 0) (fun i σ H3 => ∃ e y2 y3 y4 y5 y6, σ = [some (.ref a), some (.ref e), y2, y3, y4, y5, y6, none] ∧ Same H H3 ∧ Elder H3 e) ⟨e0, none, none, none, none, none, rfl, s1, E0'⟩ (fun i σ H3 hi hW => ?_) (fun σ H3 hW => ?_)
    · obtain ⟨e, y2, y3, y4, y5, y6, rfl, sm, hE⟩ := hW
      have hi6 : i < 1000 := by
        revert hi
        split <;> split <;> omega
      rw [Int.zero_add]
      refine ⟨_, rfl, _, rfl, a, ns, i, rfl, hi6, sm.seq hS, fun p H4 np s4 p4 => ?_⟩
      -- web
      refine ⟨_, rfl, p, rfl, p4, fun v H5 n ts f5 p5 hw ok => ?_⟩
      have s5 : Same H3 H5 := same_fro s4 np f5
      obtain ⟨r, t, xs, rfl, hw1, hw2, hw3⟩ := hw.at_
      have hxl : xs.length = ts.length := Paired.length hw3
      -- picks
      refine ⟨_, rfl, _, rfl, r, _, 1, _, rfl, rfl, SqT.of hw1, rfl, t, xs, rfl, .inr (SqT.of hw2), ?_⟩
      rw [hxl]
      refine ⟨p, ts.length, rfl, ok.few, p5, fun l6 H6 k6 n6 f6 p6 h6 lt6 few6 => ?_⟩
      have s6 : Same H3 H6 := same_fro s5 np f6
      have w6 := hw.mono (p5.tup f6)
      have hw61 := p5.tup f6 _ _ hw1
      have hw62 := p5.tup f6 _ _ hw2
      refine ⟨_, rfl, _, rfl, r, _, 1, _, rfl, rfl, SqT.of hw61, rfl, t, xs, rfl, .inr (SqT.of hw62), ?_⟩
      rw [hxl]
      refine ⟨p, ts.length, rfl, ok.few, p6, fun l7 H7 k7 n7 f7 p7 h7 lt7 few7 => ⟨_, _, rfl, ?_⟩⟩
      have s7 : Same H3 H7 := same_fro s6 np f7
      have w7 := w6.mono (p6.tup f7)
      have h67 := f7 _ _ (p5.ne n6) h6
      have N6 : NumsAt H7 l6 ts.length k6 := ⟨h67, lt6, few6⟩
      have N7 : NumsAt H7 l7 ts.length k7 := ⟨h7, lt7, few7⟩
      -- the three
      refine ⟨_, rfl, _, rfl, _, rfl, by show 3 ≤ sizeLine; decide, fun c nc => ⟨c, rfl, ⟨_, SqL.of upd_same⟩, fun D nD => ?_⟩⟩
      have cD : c ≠ D := ne_of_none upd_same nD
      have nD7 : H7 D = none := (same_new nc).free nD
      refine lc_list (K := K) (a := c) (xs := [.ref l6, .ref l7, .ref l6]) (fun j H8 => Same H7 H8 ∧ H8 c = some (.lst [.ref l6, .ref l7, .ref l6]) ∧ H8 D = some (.lst ((List.replicate j true).map V.bl)))
        ⟨(same_new nc).trans (same_new nD), by rw [upd_ne cD, upd_same], upd_same⟩ (fun j H8 _ h => SqL.of h.2.1) (fun j x H8 hx h => ?_) (fun H8 h => ?_)
      · obtain ⟨s8, c8, D8⟩ := h
        obtain ⟨lx, kx, rfl, Nx⟩ : ∃ lx kx, x = .ref lx ∧ NumsAt H7 lx ts.length kx := by
          match j, hx with
          | 0, hx => cases hx; exact ⟨l6, k6, rfl, N6⟩
          | 1, hx => cases hx; exact ⟨l7, k7, rfl, N7⟩
          | 2, hx => cases hx; exact ⟨l6, k6, rfl, N6⟩
          | j + 3, hx => simp at hx
        have hj3 : j < 3 := (List.getElem?_eq_some_iff.mp hx).1
        refine ⟨rfl, _, rfl, _, rfl, _, lx, n, ts, kx, rfl, w7.mono (TupK.same s8), ok, s8 _ _ Nx.at_, Nx.lt, Nx.few, fun H9 s9 => ?_⟩
        refine ⟨_, s9 _ _ D8, small1000 (by rw [List.length_map, List.length_replicate]; omega), fun b o hb => ?_, ?_, ?_⟩
        · rw [upd_ne (ne_of_none hb nD7)]
          exact s9 _ _ (s8 _ _ hb)
        · rw [upd_ne cD]
          exact s9 _ _ c8
        · rw [upd_same, List.replicate_succ', List.map_append]
          rfl
      · obtain ⟨s8, c8, D8⟩ := h
        refine ⟨D, _, rfl, SqL.of D8, _, rfl, ?_⟩
        refine iteF ?_
        -- the elder
        have s38 : Same H3 H8 := s7.trans s8
        obtain ⟨ve, be, ne, te, ke, he1, he2, he3, he4⟩ := hE
        have he8 := s38 _ _ he1
        refine ⟨_, rfl, e, _, 0, _, rfl, rfl, SqT.of he8, rfl, _, rfl, e, _, 1, _, rfl, rfl, SqT.of he8, rfl, ve, be, ne, te, ke, rfl, he2.mono (TupK.same s38), he3, s38 _ _ he4.at_, he4.lt, he4.few, fun H9 s9 => ⟨_, rfl, ?_⟩⟩
        refine iteF ?_
        refine ⟨_, rfl, _, rfl, by show 2 ≤ sizeLine; decide, fun e2 n9 => ?_⟩
        have s79 : Same H7 (upd H9 e2 (.tup [.ref r, .ref l7])) := (s8.trans s9).trans (same_new n9)
        exact ⟨e2, _, _, _, _, _, rfl, (sm.trans s7).trans s79, .ref r, l7, n, ts, k7, upd_same, w7.mono (TupK.same s79), ok, ⟨s79 _ _ N7.at_, N7.lt, N7.few⟩⟩
    · exact q _
end
end TA
set_option maxHeartbeats 4000000
namespace TA
open PySem PySem.Spec PyProof.Rows L2
theorem all_mk {l : PySem.W.OpenLaw} {w : World} {K : PySem.W.Frag} {h : Heap} {mg : Str → Option Value} {fa : Addr} (X : K.In h) (G : h.Ns mainGlobals mg) (hfa : mg "law" = some (.ref fa))
    {fN : Addr} {odN anN : Option Addr} {slN : Array (Option Value)} {ocN kVN dcN pmN cdN ctN : Value}
    (aN : PySem.W.nsIn K mainGlobals "_law_nth" = some (some (.ref fN))) (lN : K.lookup fN = some ⟨ocN, odN, .func (PySem.W.fnOf "_law_nth" "_law_nth" (defArgs sNth) (defBody sNth) (defScope sNth) .none kVN dcN pmN anN cdN ctN), slN⟩)
    (cN : PySem.W.codeIn K cdN "_law_nth" = true) (kN : PySem.W.keepIn K (.ref fN) = true)
    {fO : Addr} {odO anO : Option Addr} {slO : Array (Option Value)} {ocO kVO dcO pmO cdO ctO : Value}
    (aO : PySem.W.nsIn K mainGlobals "_law_pot" = some (some (.ref fO))) (lO : K.lookup fO = some ⟨ocO, odO, .func (PySem.W.fnOf "_law_pot" "_law_pot" (defArgs sPot) (defBody sPot) (defScope sPot) .none kVO dcO pmO anO cdO ctO), slO⟩)
    (cO : PySem.W.codeIn K cdO "_law_pot" = true) (kO : PySem.W.keepIn K (.ref fO) = true)
    {fT : Addr} {odT anT : Option Addr} {slT : Array (Option Value)} {ocT kVT dcT pmT cdT ctT : Value}
    (aT : PySem.W.nsIn K mainGlobals "_law_take" = some (some (.ref fT))) (lT : K.lookup fT = some ⟨ocT, odT, .func (PySem.W.fnOf "_law_take" "_law_take" (defArgs sTake) (defBody sTake) (defScope sTake) .none kVT dcT pmT anT cdT ctT), slT⟩)
    (cT : PySem.W.codeIn K cdT "_law_take" = true) (kT : PySem.W.keepIn K (.ref fT) = true)
    {fG : Addr} {odG anG : Option Addr} {slG : Array (Option Value)} {ocG kVG dcG pmG cdG ctG : Value}
    (aG : PySem.W.nsIn K mainGlobals "_law_grown" = some (some (.ref fG))) (lG : K.lookup fG = some ⟨ocG, odG, .func (PySem.W.fnOf "_law_grown" "_law_grown" (defArgs sGrown) (defBody sGrown) (defScope sGrown) .none kVG dcG pmG anG cdG ctG), slG⟩)
    (cG : PySem.W.codeIn K cdG "_law_grown" = true) (kG : PySem.W.keepIn K (.ref fG) = true)
    {fW : Addr} {odW anW : Option Addr} {slW : Array (Option Value)} {ocW kVW dcW pmW cdW ctW : Value}
    (aW : PySem.W.nsIn K mainGlobals "_law_web" = some (some (.ref fW))) (lW : K.lookup fW = some ⟨ocW, odW, .func (PySem.W.fnOf "_law_web" "_law_web" (defArgs sWeb) (defBody sWeb) (defScope sWeb) .none kVW dcW pmW anW cdW ctW), slW⟩)
    (cW : PySem.W.codeIn K cdW "_law_web" = true) (kW : PySem.W.keepIn K (.ref fW) = true)
    {fC : Addr} {odC anC : Option Addr} {slC : Array (Option Value)} {ocC kVC dcC pmC cdC ctC : Value}
    (aC : PySem.W.nsIn K mainGlobals "_law_pick" = some (some (.ref fC))) (lC : K.lookup fC = some ⟨ocC, odC, .func (PySem.W.fnOf "_law_pick" "_law_pick" (defArgs sPick) (defBody sPick) (defScope sPick) .none kVC dcC pmC anC cdC ctC), slC⟩)
    (cC : PySem.W.codeIn K cdC "_law_pick" = true) (kC : PySem.W.keepIn K (.ref fC) = true)
    {fL : Addr} {odL anL : Option Addr} {slL : Array (Option Value)} {ocL kVL dcL pmL cdL ctL : Value}
    (aL : PySem.W.nsIn K mainGlobals "_law_parts" = some (some (.ref fL))) (lL : K.lookup fL = some ⟨ocL, odL, .func (PySem.W.fnOf "_law_parts" "_law_parts" (defArgs sLParts) (defBody sLParts) (defScope sLParts) .none kVL dcL pmL anL cdL ctL), slL⟩)
    (cL : PySem.W.codeIn K cdL "_law_parts" = true) (kL : PySem.W.keepIn K (.ref fL) = true)
    {fP : Addr} {odP anP : Option Addr} {slP : Array (Option Value)} {ocP kVP dcP pmP cdP ctP : Value}
    (aP : PySem.W.nsIn K mainGlobals "parts_by" = some (some (.ref fP))) (lP : K.lookup fP = some ⟨ocP, odP, .func (PySem.W.fnOf "parts_by" "parts_by" (defArgs sParts) (defBody sParts) (defScope sParts) .none kVP dcP pmP anP cdP ctP), slP⟩)
    (cP : PySem.W.codeIn K cdP "parts_by" = true) (kP : PySem.W.keepIn K (.ref fP) = true)
    {fR : Addr} {odR anR : Option Addr} {slR : Array (Option Value)} {ocR kVR dcR pmR cdR ctR : Value}
    (aR : PySem.W.nsIn K mainGlobals "_law_right" = some (some (.ref fR))) (lR : K.lookup fR = some ⟨ocR, odR, .func (PySem.W.fnOf "_law_right" "_law_right" (defArgs sRight) (defBody sRight) (defScope sRight) .none kVR dcR pmR anR cdR ctR), slR⟩)
    (cR : PySem.W.codeIn K cdR "_law_right" = true) (kR : PySem.W.keepIn K (.ref fR) = true)
    {fZ : Addr} {odZ anZ : Option Addr} {slZ : Array (Option Value)} {ocZ kVZ dcZ pmZ cdZ ctZ : Value}
    (aZ : PySem.W.nsIn K mainGlobals "law" = some (some (.ref fZ))) (lZ : K.lookup fZ = some ⟨ocZ, odZ, .func (PySem.W.fnOf "law" "law" (defArgs sLaw) (defBody sLaw) (defScope sLaw) .none kVZ dcZ pmZ anZ cdZ ctZ), slZ⟩)
    (cZ : PySem.W.codeIn K cdZ "law" = true) (kZ : PySem.W.keepIn K (.ref fZ) = true)
    (z0 : PySem.W.nsIn K mainGlobals "range" = some none)
    (z1 : PySem.W.nsIn K mainGlobals "sorted" = some none)
    (z2 : PySem.W.nsIn K mainGlobals "list" = some none)
    (z3 : PySem.W.nsIn K mainGlobals "min" = some none)
    (z4 : PySem.W.nsIn K mainGlobals "max" = some none)
    (z5 : PySem.W.nsIn K mainGlobals "repr" = some none)
    (z6 : PySem.W.nsIn K mainGlobals "tuple" = some none)
    (z7 : PySem.W.nsIn K mainGlobals "len" = some none)
    (z8 : PySem.W.nsIn K mainGlobals "abs" = some none)
    (z9 : PySem.W.nsIn K mainGlobals "divmod" = some none)
    (z10 : PySem.W.nsIn K mainGlobals "int" = some none)
    (z11 : PySem.W.nsIn K mainGlobals "all" = some none)
    : ∃ fd : FuncData, (∀ (s : Shared) (v : Value), BindsTo s fd ⟨[v], []⟩ [("_law_script", v)]) ∧ ∀ b0 : Heap, K.In b0 → b0.Ns mainGlobals mg → FnG l.prog w K mg b0 CX0 4 fa fd ["_law_script"] (spLaw K) := by
  have e := hfa.symm.trans (PySem.W.mg_of X G aZ)
  cases e
  have FN := fun_mk (st := sNth) lN cN kN
  have FO := fun_mk (st := sPot) lO cO kO
  have FT := fun_mk (st := sTake) lT cT kT
  have FG := fun_mk (st := sGrown) lG cG kG
  have FW := fun_mk (st := sWeb) lW cW kW
  have FC := fun_mk (st := sPick) lC cC kC
  have FL := fun_mk (st := sLParts) lL cL kL
  have FP := fun_mk (st := sParts) lP cP kP
  have FR := fun_mk (st := sRight) lR cR kR
  have FZ := fun_mk (st := sLaw) lZ cZ kZ
  have bN := FN.binds (ps := ["_law_script", "_law_k"]) fun _ _ _ _ _ _ us hl => match us, hl with | [_, _], _ => rfl
  have gN := PySem.W.mg_of X G aN
  have bO := FO.binds (ps := ["_law_script", "_law_k"]) fun _ _ _ _ _ _ us hl => match us, hl with | [_, _], _ => rfl
  have gO := PySem.W.mg_of X G aO
  have bT := FT.binds (ps := ["_law_pot_here", "_law_many"]) fun _ _ _ _ _ _ us hl => match us, hl with | [_, _], _ => rfl
  have gT := PySem.W.mg_of X G aT
  have bG := FG.binds (ps := ["_law_pot_here", "_law_places"]) fun _ _ _ _ _ _ us hl => match us, hl with | [_, _], _ => rfl
  have gG := PySem.W.mg_of X G aG
  have bW := FW.binds (ps := ["_law_pot_here"]) fun _ _ _ _ _ _ us hl => match us, hl with | [_], _ => rfl
  have gW := PySem.W.mg_of X G aW
  have bC := FC.binds (ps := ["_law_pot_here", "_law_many"]) fun _ _ _ _ _ _ us hl => match us, hl with | [_, _], _ => rfl
  have gC := PySem.W.mg_of X G aC
  have bL := FL.binds (ps := ["_law_web_here", "_law_numbers"]) fun _ _ _ _ _ _ us hl => match us, hl with | [_, _], _ => rfl
  have gL := PySem.W.mg_of X G aL
  have bP := FP.binds (ps := ["web", "numbers"]) fun _ _ _ _ _ _ us hl => match us, hl with | [_, _], _ => rfl
  have gP := PySem.W.mg_of X G aP
  have bR := FR.binds (ps := ["_law_web_here", "_law_numbers"]) fun _ _ _ _ _ _ us hl => match us, hl with | [_, _], _ => rfl
  have gR := PySem.W.mg_of X G aR
  have m_range := PySem.W.mg_none_of X G z0
  have m_sorted := PySem.W.mg_none_of X G z1
  have m_list := PySem.W.mg_none_of X G z2
  have m_min := PySem.W.mg_none_of X G z3
  have m_max := PySem.W.mg_none_of X G z4
  have m_repr := PySem.W.mg_none_of X G z5
  have m_tuple := PySem.W.mg_none_of X G z6
  have m_len := PySem.W.mg_none_of X G z7
  have m_abs := PySem.W.mg_none_of X G z8
  have m_divmod := PySem.W.mg_none_of X G z9
  have m_int := PySem.W.mg_none_of X G z10
  have m_all := PySem.W.mg_none_of X G z11
  exact ⟨PySem.W.fnOf "law" "law" (defArgs sLaw) (defBody sLaw) (defScope sLaw) .none kVZ dcZ pmZ anZ cdZ ctZ, fun s v => .of_eq rfl, fun b0 _ _ => ok_law FZ FN bN gN FO bO gO FT bT gT FG bG gG FW bW gW FC bC gC FL bL gL FP bP gP FR bR gR m_range m_sorted m_list m_min m_max m_repr m_tuple m_len m_abs m_divmod m_int m_all⟩
end TA
open PySem PySem.W PyProof.Rows
set_option maxHeartbeats 0 in
theorem PySem.Challenge.cw_treesapart_k13_parts_by_holds : PySem.Challenge.rw_treesapart_k13_parts_by.Holds := by
  w_on; o_law; k_head; (case hw => w_witness2)
  k_fill
  refine TA.walkG (l := PySem.Challenge.rw_treesapart_k13_parts_by) (n := 63) (k := 4) (x := "_law_script") (sp := fun w => TA.spLaw _) rfl (by decide) rfl ⟨rfl, by decide, by decide⟩ (fun w h Y => PySem.W.kIn_of Y) ?F (fun _ _ a ns hl _ hS => ⟨a, ns, rfl, hS, hl, fun _ => rfl⟩)
  case F =>
    intro w mg fa h KX G hmg
    refine' TA.all_mk KX G hmg ?aN ?lN ?cN ?kN ?aO ?lO ?cO ?kO ?aT ?lT ?cT ?kT ?aG ?lG ?cG ?kG ?aW ?lW ?cW ?kW ?aC ?lC ?cC ?kC ?aL ?lL ?cL ?kL ?aP ?lP ?cP ?kP ?aR ?lR ?cR ?kR ?aZ ?lZ ?cZ ?kZ ?z0 ?z1 ?z2 ?z3 ?z4 ?z5 ?z6 ?z7 ?z8 ?z9 ?z10 ?z11
    (case aN => k_is); (case lN => k_is); (case cN => k_is); (case kN => k_is); (case aO => k_is); (case lO => k_is); (case cO => k_is); (case kO => k_is); (case aT => k_is); (case lT => k_is); (case cT => k_is); (case kT => k_is); (case aG => k_is); (case lG => k_is); (case cG => k_is); (case kG => k_is); (case aW => k_is); (case lW => k_is); (case cW => k_is); (case kW => k_is); (case aC => k_is); (case lC => k_is); (case cC => k_is); (case kC => k_is); (case aL => k_is); (case lL => k_is); (case cL => k_is); (case kL => k_is); (case aP => k_is); (case lP => k_is); (case cP => k_is); (case kP => k_is); (case aR => k_is); (case lR => k_is); (case cR => k_is); (case kR => k_is); (case aZ => k_is); (case lZ => k_is); (case cZ => k_is); (case kZ => k_is); (case z0 => k_is); (case z1 => k_is); (case z2 => k_is); (case z3 => k_is); (case z4 => k_is); (case z5 => k_is); (case z6 => k_is); (case z7 => k_is); (case z8 => k_is); (case z9 => k_is); (case z10 => k_is); (case z11 => k_is)
